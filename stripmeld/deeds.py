"""What each deed makes of a field or of a list of wishes; both are told anew, none is changed."""

from stripmeld.errors import (
    BadPart, LikeHolders, NoStrip, NoWish, OwnStrip, TooManyStrips, TooManyWishes, TooWide, UnlikeHolders,
    WishStands,
)
from stripmeld.moves import check_neighbours
from stripmeld.strips import STRIPS, WIDEST, check_holder
from stripmeld.wishes import MOST_WISHES


# As in the other files, no refusal shows the number that it is due to: it may be too long to be written out.
def check_place(strips, place):
    if place < 1 or place > len(strips):
        raise NoStrip("no strip lies at that place")


def sold(strips, place, holder):
    check_place(strips, place)
    check_holder(holder)
    strip = strips[place - 1]
    if strip[0] == holder:
        raise OwnStrip("that holder has the strip already")
    return strips[:place - 1] + [(holder, strip[1])] + strips[place:]


def parted(strips, place, width):
    check_place(strips, place)
    strip = strips[place - 1]
    if width < 1 or width >= strip[1]:
        raise BadPart("each of the two parts must have a width")
    if len(strips) >= STRIPS:
        raise TooManyStrips(f"a field has at most {STRIPS} strips")
    return strips[:place - 1] + [(strip[0], width), (strip[0], strip[1] - width)] + strips[place:]


def united(strips, place):
    check_neighbours(strips, place)
    left = strips[place - 1]
    right = strips[place]
    if left[0] != right[0]:
        raise UnlikeHolders("two holders have the strips")
    if left[1] + right[1] > WIDEST:
        raise TooWide(f"a strip is at most {WIDEST} wide")
    return strips[:place - 1] + [(left[0], left[1] + right[1])] + strips[place + 1:]


def with_wish(wishes, ahead, behind):
    check_holder(ahead)
    check_holder(behind)
    if ahead == behind:
        raise LikeHolders("a wish has two unlike holders")
    if (ahead, behind) in wishes:
        raise WishStands("that wish stands already")
    if len(wishes) >= MOST_WISHES:
        raise TooManyWishes(f"at most {MOST_WISHES} wishes stand")
    return wishes + [(ahead, behind)]


def without_wish(wishes, ahead, behind):
    if (ahead, behind) not in wishes:
        raise NoWish("that wish does not stand")
    return [wish for wish in wishes if wish != (ahead, behind)]
