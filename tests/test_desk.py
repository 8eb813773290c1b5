import random
import re
import unittest

from helper import HUGE, MeldCase, full_village, told_of
from stripmeld.desk import answer, answers
from stripmeld.errors import (
    BadHolder, BadOrder, BadPart, BadWidth, BookFull, LikeHolders, NoStrip, NoSuchDeed, NothingDone, NoWish, OwnStrip,
    Ringed, TooManyStrips, TooManyWishes, TooWide, UnlikeHolders, WishStands,
)
from stripmeld.village import Village

FIELD = [(3, 9), (1, 2), (3, 4), (2, 8), (1, 1), (3, 6)]
WORDS = ("sell", "part", "unite", "wish", "drop", "back", "field", "wishes", "stood", "ring", "order", "cost",
         "moves", "price", "broken", "offer")
WRITTEN = re.compile(
    "(sell|part|wish|drop|offer) N N|(unite|stood) N|(back|field|wishes|ring|order|cost|moves)|"
    "(price|broken)( N)*".replace("N", "(0|[1-9][0-9]{0,3})"))
SIGNS = [chr(number) for number in range(ord(" "), ord("~") + 1)]
REFUSALS = (
    (TooManyStrips, "strips"), (BadHolder, "holder"), (NoStrip, "place"), (OwnStrip, "own"), (BadPart, "part"),
    (UnlikeHolders, "unlike"), (TooWide, "wide"), (LikeHolders, "like"), (WishStands, "twice"),
    (TooManyWishes, "wishes"), (NoWish, "unknown"), (BookFull, "full"), (NothingDone, "nothing"),
    (NoSuchDeed, "deed"), (BadOrder, "order"),
)


class DeskCase(MeldCase):
    def check(self, village, *talk):
        """Rows and their answers in turn."""
        for row, expected in zip(talk[::2], talk[1::2], strict=True):
            told = answer(village, row)
            self.assertEqual(told, expected, row)
            self.assertIs(told.__class__, str)

    def unchanged(self, village, row, expected):
        before = told_of(village)
        self.check(village, row, expected)
        self.assertEqual(told_of(village), before, row)

    def check_answers(self, strips, *talk):
        told = self.ask(answers, strips, list(talk[::2]))
        self.check_kinds(told, str)
        self.assertEqual(told, list(talk[1::2]))
        self.check(Village(strips), *talk)


class DeedRowsTest(DeskCase):
    def test_each_deed(self):
        village = Village(FIELD)
        self.check(village, "sell 3 1", "done 1")
        self.assertEqual(village.strips(), [(3, 9), (1, 2), (1, 4), (2, 8), (1, 1), (3, 6)])
        self.check(village, "unite 2", "done 2")
        self.assertEqual(village.strips(), [(3, 9), (1, 6), (2, 8), (1, 1), (3, 6)])
        self.check(village, "part 3 5", "done 3")
        self.assertEqual(village.strips(), [(3, 9), (1, 6), (2, 5), (2, 3), (1, 1), (3, 6)])
        self.check(village, "wish 10 2", "done 4", "wish 2 3", "done 5")
        self.assertEqual(village.wishes(), [(10, 2), (2, 3)])
        self.check(village, "drop 10 2", "done 6")
        self.assertEqual(village.wishes(), [(2, 3)])
        self.assertEqual(village.deeds(), [("sell", 3, 1), ("unite", 2), ("part", 3, 5), ("wish", 10, 2),
                                           ("wish", 2, 3), ("drop", 10, 2)])
        self.check(village, "back", "drop 10 2", "back", "wish 2 3", "back", "wish 10 2", "back", "part 3 5",
                   "back", "unite 2", "back", "sell 3 1", "back", "refused: nothing")
        self.assertEqual((village.strips(), village.wishes(), village.deeds()), (FIELD, [], []))

    def test_the_number_of_deeds_that_stand(self):
        self.check_answers([(1, 5)], "sell 1 2", "done 1", "sell 1 3", "done 2", "sell 1 3", "refused: own",
                           "back", "sell 1 3", "sell 1 4", "done 2", "back", "sell 1 4", "back", "sell 1 2",
                           "wish 1 2", "done 1", "sell 1 10", "done 2", "field", "10:5")

    def test_a_hundred_deeds(self):
        talk = []
        for number in range(1, 101):
            talk += [("wish 1 2", "drop 1 2")[number % 2 - 1], f"done {number}"]
        talk += ["wish 1 2", "refused: full", "sell 99 99", "refused: full", "part 0 0", "refused: full",
                 "unite 0", "refused: full", "drop 7 7", "refused: full", "drop 7", "refused: row",
                 "offer 1 2", "0", "back", "drop 1 2", "drop 1 2", "done 100", "stood 100", "1:5 | none"]
        self.check_answers([(1, 5)], *talk)

    def test_deeds_that_the_desk_did_not_do(self):
        village = Village(FIELD)
        village.part(1, 4)
        village.wish(1, 2)
        self.check(village, "wish 2 1", "done 3", "back", "wish 2 1", "back", "wish 1 2", "back", "part 1 4")
        self.assertEqual(village.sell(1, 10), 1)
        self.check(village, "field", "10:9 1:2 3:4 2:8 1:1 3:6", "back", "sell 1 10")


class QuestionRowsTest(DeskCase):
    def test_each_question(self):
        self.check_answers(
            FIELD, "field", "3:9 1:2 3:4 2:8 1:1 3:6", "wishes", "none", "ring", "none", "order", "3 1 2", "cost", "82",
            "moves", "2 4 5 4 3", "price 1 2 3", "143", "price 3 1 2", "82", "broken 1 2 3", "none",
            "wish 2 3", "done 1", "wish 1 2", "done 2", "wishes", "2>3 1>2", "order", "1 2 3", "cost", "143",
            "moves", "1 3 2 4 3 2", "broken 3 2 1", "2>3 1>2", "broken 2 1 3", "1>2", "broken 3 1 2", "2>3",
            "stood 0", "3:9 1:2 3:4 2:8 1:1 3:6 | none", "stood 1", "3:9 1:2 3:4 2:8 1:1 3:6 | 2>3",
            "stood 2", "3:9 1:2 3:4 2:8 1:1 3:6 | 2>3 1>2", "stood 3", "refused: deed",
            "wish 3 1", "done 3", "ring", "1 2 3", "cost", "refused: ring 1 2 3", "price 3 2 1", "90",
            "broken 3 2 1", "2>3 1>2")

    def test_nothing_there(self):
        self.check_answers([], "field", "none", "wishes", "none", "stood 0", "none | none", "ring", "none",
                           "order", "none", "cost", "0", "moves", "none", "price", "0", "broken", "none",
                           "wish 1 10", "done 1", "stood 1", "none | 1>10", "wishes", "1>10", "broken", "none")

    def test_one_strip(self):
        self.check_answers([(10, 1000)], "field", "10:1000", "stood 0", "10:1000 | none", "order", "10",
                           "cost", "0", "moves", "none", "price 10", "0", "broken 10", "none", "offer 1 1", "0")

    def test_offers(self):
        self.check_answers([(1, 3), (2, 5), (1, 2)], "offer 3 2", "-10", "offer 2 3", "0", "sell 2 1", "done 1",
                           "offer 2 2", "10", "field", "1:3 1:5 1:2", "back", "sell 2 1")
        village = Village([(1, 1000), (2, 1000), (1, 1000)])
        self.check(village, "offer 2 1", "-1000000", "cost", "1000000")

    def test_questions_change_nothing(self):
        village = Village(FIELD)
        village.wish(2, 3)
        before = told_of(village)
        for row in ("field", "wishes", "stood 0", "ring", "order", "cost", "moves", "price 1 2 3", "broken 3 2 1",
                    "offer 1 2"):
            told = answer(village, row)
            self.assertEqual(answer(village, row), told)
            self.assertEqual(told_of(village), before)

    def test_long_rows(self):
        ten = [(holder, holder) for holder in range(10, 0, -1)]
        self.check_answers(ten, "price 10 9 8 7 6 5 4 3 2 1", "0", "order", "10 9 8 7 6 5 4 3 2 1",
                           "price 1 2 3 4 5 6 7 8 9 10", str((55 * 55 - 385) // 2),
                           "price" + " 1" * 37, "refused: order", "broken" + " 1234" * 14, "refused: order",
                           "price" + " 9999" * 50, "refused: order", "field" + " 1" * 50, "refused: row")


class RefusedRowTest(DeskCase):
    def setUp(self):
        self.village = Village(FIELD)
        self.village.wish(2, 3)
        self.before = told_of(self.village)

    def refused(self, *rows):
        for row in rows:
            self.check(self.village, row, "refused: row")
        self.assertEqual(told_of(self.village), self.before)

    def test_nothing_written(self):
        self.refused("", " ", "  ", "   ", " " * 80)

    def test_other_words(self):
        self.refused("sel 1 2", "sells 1 2", "Sell 1 2", "SELL 1 2", "table", "melded", "deeds", "strips",
                     "take_back", "none", "done 1", "fields", "wishes2", "sell,1,2", "1 2", "1", "0", "sell1 2",
                     "unite1", "back.", "field;", "row", "refused: row", "cost?", "#", "~", "offers 1 2", "Back")

    def test_another_count_of_numbers(self):
        for word, many in (("sell", 2), ("part", 2), ("unite", 1), ("wish", 2), ("drop", 2), ("back", 0),
                           ("field", 0), ("wishes", 0), ("stood", 1), ("ring", 0), ("order", 0), ("cost", 0),
                           ("moves", 0), ("offer", 2)):
            for count in range(6):
                if count != many:
                    self.refused(word + " 1" * count, word + " 2" * count, word + " 0" * count)

    def test_numbers_written_otherwise(self):
        for number in ("01", "00", "0000", "0001", "12345", "10000", "99999", "00001", "-1", "+1", "-0", "+0", "--1",
                       "1.0", "1.", ".1", "1_0", "1,0", "1e1", "0x1", "a", "x1", "1x", "one", "1>2", "1:2", "'1'",
                       "(1)", "1-", "1/1", "1/", "/", ":", "9:", "0:", "-", "", "~", "1~", "\"1\"", "1" * 70):
            self.refused(f"sell {number} 1", f"sell 1 {number}", f"part {number} 2", f"part 1 {number}",
                         f"unite {number}", f"wish {number} 1", f"wish 1 {number}", f"drop {number} 3",
                         f"drop 2 {number}", f"stood {number}", f"price {number} 2 3", f"price 1 2 {number}",
                         f"broken 1 {number} 3", f"offer {number} 2", f"offer 1 {number}", f"price {number}")

    def test_a_blank_too_many(self):
        for row in ("sell 1 2", "part 1 2", "unite 1", "wish 1 2", "drop 2 3", "back", "field", "wishes", "stood 1",
                    "ring", "order", "cost", "moves", "price 1 2 3", "price", "broken 1 2 3", "broken", "offer 1 2"):
            self.refused(" " + row, row + " ", "  " + row, row + "  ", " " + row + " ")
            for place, sign in enumerate(row):
                if sign == " ":
                    self.refused(row[:place] + " " + row[place:])

    def test_other_signs_between(self):
        self.refused("sell 1,2", "sell 1_2", "sell:1 2", "price 1-2-3", "wish 1>2", "field.", "part 1 2.")

    def test_figures(self):
        village = Village(FIELD)
        self.check(village, "sell 0 1", "refused: place", "sell 9999 1", "refused: place", "sell 1 0",
                   "refused: holder", "sell 1 9999", "refused: holder", "sell 10 10", "refused: place",
                   "part 1 0", "refused: part", "part 1 1000", "refused: part", "part 1 9999", "refused: part",
                   "unite 0", "refused: place", "unite 9999", "refused: place", "wish 0 1", "refused: holder",
                   "wish 1 9999", "refused: holder", "drop 0 0", "refused: unknown", "drop 9999 9999",
                   "refused: unknown", "stood 9999", "refused: deed", "stood 100", "refused: deed",
                   "price 0", "refused: order", "broken 9999", "refused: order", "offer 0 0", "refused: place",
                   "offer 1 0", "refused: holder")
        self.assertEqual(told_of(village), told_of(Village(FIELD)))

    def test_rows_with_a_sign_changed(self):
        chance = random.Random(28)
        good = 0
        for _ in range(6000):
            row = " ".join([chance.choice(WORDS)] + [chance.choice(("0", "1", "2", "3", "10", "1000", "9999"))
                                                     for _ in range(chance.choice((0, 1, 2, 2, 3)))])
            if chance.random() < 0.7:
                place = chance.randint(0, len(row))
                put = chance.choice(("", " ", chance.choice("0123456789"), chance.choice(SIGNS)))
                row = row[:place] + put + row[place + chance.randint(0, 1):]
            written = WRITTEN.fullmatch(row) is not None
            good += written
            self.assertEqual(answer(Village(FIELD[:3]), row) != "refused: row", written, row)
        self.assertGreater(good, 1000)

    def test_every_sign_in_a_number(self):
        for sign in SIGNS:
            written = sign in "0123456789"
            for row, also in ((f"stood {sign}", ""), (f"stood 1{sign}", ""), (f"stood {sign}1", "0")):
                told = answer(self.village, row)
                self.assertEqual(told != "refused: row", written and sign not in also.split(), row)
        self.assertEqual(told_of(self.village), self.before)


class RefusalTest(DeskCase):
    def test_each_refusal(self):
        village = Village([(1, 600), (1, 401), (2, 1), (3, 5)])
        for row, word in (
                ("sell 1 11", "holder"), ("sell 5 11", "place"), ("sell 1 1", "own"), ("part 3 1", "part"),
                ("part 5 0", "place"), ("part 4 5", "part"), ("unite 2", "unlike"), ("unite 1", "wide"),
                ("unite 4", "place"), ("wish 11 1", "holder"), ("wish 1 0", "holder"), ("wish 11 11", "holder"),
                ("wish 1 1", "like"), ("drop 1 2", "unknown"), ("drop 1 1", "unknown"), ("back", "nothing"),
                ("stood 1", "deed"), ("price 1 2", "order"), ("price 1 2 3 3", "order"), ("broken", "order"),
                ("broken 3 2 4", "order"), ("offer 5 0", "place"), ("offer 1 0", "holder"), ("offer 3 2", "own")):
            self.unchanged(village, row, "refused: " + word)
        village.wish(1, 2)
        self.unchanged(village, "wish 1 2", "refused: twice")

    def test_too_many_strips(self):
        village = Village([(1, 5)] * 40)
        self.unchanged(village, "part 1 1", "refused: strips")
        self.unchanged(village, "part 1 5", "refused: part")

    def test_too_many_wishes(self):
        village = Village(FIELD)
        for ahead in (1, 2):
            for behind in (10, 9, 8, 7, 6, 5, 4, 3):
                village.wish(ahead, behind)
        for behind in (10, 9, 8, 7):
            village.wish(3, behind)
        self.unchanged(village, "wish 1 2", "refused: wishes")
        self.unchanged(village, "wish 1 10", "refused: twice")
        self.unchanged(village, "wish 1 1", "refused: like")

    def test_a_full_book(self):
        village = full_village(FIELD)
        for row in ("sell 1 2", "sell 0 0", "part 1 1", "unite 1", "wish 1 1", "drop 9 8"):
            self.unchanged(village, row, "refused: full")
        self.unchanged(village, "sell 1 2 3", "refused: row")

    def test_rings(self):
        village = Village([(1, 2), (2, 3), (4, 4)])
        self.check(village, "wish 1 4", "done 1", "wish 4 2", "done 2", "wish 2 1", "done 3", "ring", "1 4 2")
        for row in ("order", "cost", "moves", "offer 1 3"):
            self.unchanged(village, row, "refused: ring 1 4 2")
        self.unchanged(village, "offer 1 0", "refused: holder")
        self.unchanged(village, "price 1 2 4", "0")
        self.unchanged(village, "broken 1 2 4", "4>2 2>1")
        self.check(village, "sell 2 1", "done 4", "order", "1 4", "offer 2 2", "refused: ring 1 4 2",
                   "wish 10 1", "done 5", "wish 1 10", "done 6", "offer 3 10", "refused: ring 1 10")

    def test_a_bad_field_is_refused(self):
        for rows in ([], ["field"], ["nothing written"]):
            self.refuse(TooManyStrips, answers, [(1, 1)] * 41, rows)
            self.refuse(TooManyStrips, answers, [(0, 0)] * 41, rows)
            self.refuse(BadHolder, answers, [(1, 1), (11, 0)], rows)
            self.refuse(BadHolder, answers, [(0, 1), (1, 0)], rows)
            self.refuse(BadWidth, answers, [(1, 1001), (0, 1)], rows)
            self.refuse(BadWidth, answers, [(1, 1), (2, 0)], rows)
            for number, off in enumerate((HUGE, -HUGE)):
                with self.subTest(number=number):
                    self.refuse(BadHolder, answers, [(off, 1)], rows)
                    self.refuse(BadWidth, answers, [(1, off)], rows)


class AnswersTest(DeskCase):
    def test_no_rows(self):
        for field in ([], FIELD):
            self.assertEqual(self.ask(answers, field, []), [])

    def test_one_answer_a_row(self):
        self.check_answers(FIELD, "cost", "82", "", "refused: row", "cost", "82", "back", "refused: nothing",
                           "cost", "82")

    def test_many_rows(self):
        for many in (300, 301, 400):
            told = self.ask(answers, [(1, 5)], ["sell 1 2", "back"] * (many // 2) + ["field"] * (many % 2))
            self.assertEqual(told, ["done 1", "sell 1 2"] * (many // 2) + ["1:5"] * (many % 2))

    def test_lists_changed_later(self):
        field, rows = list(FIELD), ["sell 1 2", "field"]
        told = answers(field, rows)
        kept = list(told)
        told.append("none")
        self.assertEqual(answers(field, rows), kept)
        told = answers(field, rows)
        field.clear()
        rows.clear()
        self.assertEqual(told, kept)
        self.assertEqual(answers(field, rows), [])

    def test_two_calls_share_nothing(self):
        first = self.ask(answers, FIELD, ["sell 1 2", "wish 1 2", "field"])
        self.assertEqual(self.ask(answers, FIELD, ["field", "wishes", "back"]),
                         ["3:9 1:2 3:4 2:8 1:1 3:6", "none", "refused: nothing"])
        self.assertEqual(self.ask(answers, FIELD, ["sell 1 2", "wish 1 2", "field"]), first)

    def test_two_villages_at_the_desk(self):
        one, other = Village(FIELD), Village(FIELD)
        before = told_of(other)
        self.check(one, "sell 1 2", "done 1", "wish 1 2", "done 2")
        self.assertEqual(told_of(other), before)
        self.check(other, "back", "refused: nothing")


class ManyRowsTest(DeskCase):
    """Rows over a village are held against the methods of another village that does the same."""

    def by_method(self, village, word, numbers):
        pair = {"sell": village.sell, "part": village.part, "unite": village.unite, "wish": village.wish,
                "drop": village.drop}
        if word in pair:
            return "done " + str(pair[word](*numbers))
        if word == "back":
            return " ".join(map(str, village.take_back()))
        if word == "stood":
            strips, wishes = village.stood(*numbers)
            return self.joined("%d:%d", strips) + " | " + self.joined("%d>%d", wishes)
        if word in ("ring", "order"):
            return self.joined("%d", village.ring() if word == "ring" else village.order())
        if word in ("cost", "offer"):
            return "%d" % (village.cost() if word == "cost" else village.offer(*numbers))
        if word == "price":
            return "%d" % village.price(numbers)
        if word == "moves":
            return self.joined("%d", [place for place, _, _, _ in village.moves()])
        if word == "broken":
            return self.joined("%d>%d", village.broken(numbers))
        return self.joined("%d:%d", village.strips()) if word == "field" else self.joined("%d>%d", village.wishes())

    def joined(self, form, told):
        return " ".join(form % each for each in told) or "none"

    def expected(self, village, word, numbers):
        try:
            return self.by_method(village, word, numbers)
        except Ringed as error:
            return "refused: ring " + " ".join(map(str, error.members))
        except ValueError as error:
            return "refused: " + dict(REFUSALS)[error.__class__]

    def chosen(self, chance, village):
        word = chance.choice(WORDS + ("sell", "part", "unite", "wish", "drop") * 2)
        holders = sorted({holder for holder, _ in village.strips()})
        if word in ("price", "broken"):
            chance.shuffle(holders)
            return word, holders if chance.random() < 0.8 else holders[1:]
        if word in ("stood", "unite"):
            return word, [chance.randint(0, len(village.strips()))]
        if word in ("wish", "drop"):
            return word, [chance.randint(1, 4), chance.randint(0, 5)]
        if word in ("sell", "offer", "part"):
            return word, [chance.randint(0, len(village.strips()) + 1), chance.randint(0, 5)]
        return word, []

    def test_many_rows(self):
        chance = random.Random(30)
        for _ in range(12):
            field = [(chance.randint(1, 4), chance.randint(1, 9)) for _ in range(chance.choice((0, 5, 12)))]
            village, other = Village(field), Village(field)
            rows, told = [], []
            for _ in range(250):
                word, numbers = self.chosen(chance, village)
                rows.append(" ".join([word] + [str(number) for number in numbers]))
                told.append(self.expected(other, word, numbers))
                self.check(village, rows[-1], told[-1])
            self.assertEqual(told_of(village), told_of(other))
            self.assertEqual(self.ask(answers, field, rows), told)


if __name__ == "__main__":
    unittest.main()
