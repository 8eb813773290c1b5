"""The desk: rows of text are answered over a village."""

from stripmeld.errors import (
    BadHolder, BadOrder, BadPart, BookFull, LikeHolders, NoStrip, NoSuchDeed, NothingDone, NoWish, OwnStrip, Ringed,
    TooManyStrips, TooManyWishes, TooWide, UnlikeHolders, WishStands,
)
from stripmeld.village import Village

FIGURES = "0123456789"
MOST_FIGURES = 4

# How many numbers stand behind a word; behind the words of ORDERS there may be any count of them.
DEEDS = {"sell": 2, "part": 2, "unite": 1, "wish": 2, "drop": 2}
OTHERS = {"back": 0, "field": 0, "wishes": 0, "stood": 1, "ring": 0, "order": 0, "cost": 0, "moves": 0, "offer": 2}
ORDERS = ("price", "broken")


# The figures are looked up one by one, since `isdigit` lets by the figures of other scripts too.
def is_number(text):
    if len(text) < 1 or len(text) > MOST_FIGURES:
        return False
    if text[0] == "0" and text != "0":
        return False
    return all([sign in FIGURES for sign in text])


def is_row(word, texts):
    if not all([is_number(text) for text in texts]):
        return False
    if word in DEEDS:
        return DEEDS[word] == len(texts)
    if word in OTHERS:
        return OTHERS[word] == len(texts)
    return word in ORDERS


def told_texts(texts):
    return " ".join(texts) if texts else "none"


def told_numbers(numbers):
    return told_texts([str(number) for number in numbers])


def told_strips(strips):
    return told_texts([f"{holder}:{width}" for holder, width in strips])


def told_wishes(wishes):
    return told_texts([f"{ahead}>{behind}" for ahead, behind in wishes])


def told_deed(deed):
    return told_texts([deed[0]] + [str(number) for number in deed[1:]])


def told_stood(stood):
    strips = told_strips(stood[0])
    wishes = told_wishes(stood[1])
    return f"{strips} | {wishes}"


def do_deed(village, word, numbers):
    if word == "sell":
        return village.sell(numbers[0], numbers[1])
    if word == "part":
        return village.part(numbers[0], numbers[1])
    if word == "unite":
        return village.unite(numbers[0])
    if word == "wish":
        return village.wish(numbers[0], numbers[1])
    return village.drop(numbers[0], numbers[1])


def told_question(village, word, numbers):
    if word == "field":
        return told_strips(village.strips())
    if word == "wishes":
        return told_wishes(village.wishes())
    if word == "stood":
        return told_stood(village.stood(numbers[0]))
    if word == "ring":
        return told_numbers(village.ring())
    if word == "order":
        return told_numbers(village.order())
    if word == "cost":
        return str(village.cost())
    if word == "moves":
        return told_numbers([move[0] for move in village.moves()])
    if word == "price":
        return str(village.price(numbers))
    if word == "broken":
        return told_wishes(village.broken(numbers))
    return str(village.offer(numbers[0], numbers[1]))


def told_row(village, word, numbers):
    if word in DEEDS:
        many = do_deed(village, word, numbers)
        return f"done {many}"
    if word == "back":
        return told_deed(village.take_back())
    return told_question(village, word, numbers)


def told_or_refused(village, word, numbers):
    try:
        return told_row(village, word, numbers)
    except TooManyStrips:
        return "refused: strips"
    except BadHolder:
        return "refused: holder"
    except NoStrip:
        return "refused: place"
    except OwnStrip:
        return "refused: own"
    except BadPart:
        return "refused: part"
    except UnlikeHolders:
        return "refused: unlike"
    except TooWide:
        return "refused: wide"
    except LikeHolders:
        return "refused: like"
    except WishStands:
        return "refused: twice"
    except TooManyWishes:
        return "refused: wishes"
    except NoWish:
        return "refused: unknown"
    except BookFull:
        return "refused: full"
    except NothingDone:
        return "refused: nothing"
    except NoSuchDeed:
        return "refused: deed"
    except BadOrder:
        return "refused: order"
    except Ringed as e:
        members = told_numbers(e.members)
        return f"refused: ring {members}"


def answer(village, row):
    words = row.split(" ")
    if not is_row(words[0], words[1:]):
        return "refused: row"
    return told_or_refused(village, words[0], [int(text) for text in words[1:]])


def answers(strips, rows):
    village = Village(strips)
    return [answer(village, row) for row in rows]
