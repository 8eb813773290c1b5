"""A village: its field, its wishes and the book of its deeds."""

from stripmeld.costs import order_cost
from stripmeld.deeds import parted, sold, united, with_wish, without_wish
from stripmeld.errors import BookFull, NoSuchDeed, NothingDone
from stripmeld.moves import told_moves
from stripmeld.strips import check_order, check_strips, gathered, holders_of
from stripmeld.table import best_order, cost_table, least_cost
from stripmeld.wishes import broken_wishes, find_ring

MOST_DEEDS = 100


class Village:
    # For the beginning and for each deed the field and the wishes are kept as they stood behind it, so that
    # taking a deed back leaves out the last of each. A list kept there is never changed and never told itself.
    def __init__(self, strips):
        check_strips(strips)
        self.book = []
        self.fields = [list(strips)]
        self.wished = [[]]

    def strips(self):
        return list(self.fields[-1])

    def wishes(self):
        return list(self.wished[-1])

    def deeds(self):
        return list(self.book)

    def check_room(self):
        if len(self.book) >= MOST_DEEDS:
            raise BookFull(f"at most {MOST_DEEDS} deeds stand")

    def enter(self, deed, field, wishes):
        self.book.append(deed)
        self.fields.append(field)
        self.wished.append(wishes)
        return len(self.book)

    def sell(self, place, holder):
        self.check_room()
        field = sold(self.strips(), place, holder)
        return self.enter(("sell", place, holder), field, self.wishes())

    def part(self, place, width):
        self.check_room()
        field = parted(self.strips(), place, width)
        return self.enter(("part", place, width), field, self.wishes())

    def unite(self, place):
        self.check_room()
        field = united(self.strips(), place)
        return self.enter(("unite", place), field, self.wishes())

    def wish(self, ahead, behind):
        self.check_room()
        wishes = with_wish(self.wishes(), ahead, behind)
        return self.enter(("wish", ahead, behind), self.strips(), wishes)

    def drop(self, ahead, behind):
        self.check_room()
        wishes = without_wish(self.wishes(), ahead, behind)
        return self.enter(("drop", ahead, behind), self.strips(), wishes)

    def take_back(self):
        if not self.book:
            raise NothingDone("no deed stands")
        self.fields.pop()
        self.wished.pop()
        return self.book.pop()

    def stood(self, many):
        if many < 0 or many > len(self.book):
            raise NoSuchDeed("not so many deeds stand")
        return (list(self.fields[many]), list(self.wished[many]))

    def ring(self):
        return find_ring(holders_of(self.strips()), self.wishes())

    def order(self):
        return best_order(self.strips(), self.wishes())

    def cost(self):
        return least_cost(self.strips(), self.wishes())

    def table(self):
        return cost_table(self.strips(), self.wishes())

    def moves(self):
        return told_moves(self.strips(), self.order())

    def melded(self):
        return gathered(self.strips(), self.order())

    def price(self, order):
        return order_cost(self.strips(), order)

    def broken(self, order):
        check_order(self.strips(), order)
        return broken_wishes(order, self.wishes())

    # The sale's own refusals come ahead of a ring, and a ring as it stands ahead of one behind the sale.
    def offer(self, place, holder):
        field = sold(self.strips(), place, holder)
        cost = self.cost()
        return least_cost(field, self.wishes()) - cost
