"""What the tests of several files need."""

import copy
import heapq
import itertools
import unittest

from stripmeld.errors import Ringed
from stripmeld.village import Village

HUGE = 10 ** 5000
TEN = list(range(1, 11))


class MeldCase(unittest.TestCase):
    def ask(self, function, *handed):
        """What the function tells; the lists handed in must stay as they were."""
        kept = copy.deepcopy(handed)
        told = function(*handed)
        self.assertEqual(handed, kept)
        return told

    def refuse(self, error, function, *handed):
        """The function must refuse with that very class, and leave the lists as they were; the error is told."""
        kept = copy.deepcopy(handed)
        with self.assertRaises(error) as caught:
            function(*handed)
        self.assertIs(caught.exception.__class__, error)
        self.assertEqual(handed, kept)
        return caught.exception

    def check_kinds(self, told, kind):
        """A told list must be a list, and each of its members of that very kind."""
        self.assertIs(told.__class__, list)
        for member in told:
            self.assertIs(member.__class__, kind)


def pair_by_words(field, ahead, behind):
    """The pair cost, told as plainly as the document does."""
    cost = 0
    for place, (holder, width) in enumerate(field):
        for left_holder, left_width in field[:place]:
            if ahead != behind and holder == ahead and left_holder == behind:
                cost += width * left_width
    return cost


def small_fields(most, holders=(1, 2, 3)):
    """Every field of up to `most` strips over these holders, with widths that no mix-up leaves unseen."""
    for many in range(most + 1):
        for chosen in itertools.product(holders, repeat=many):
            yield [(holder, 5 ** place + place) for place, holder in enumerate(chosen)]


def wrong_orders(strips):
    """Lists of numbers that are no order of the field."""
    holders = sorted({holder for holder, _ in strips})
    wrong = [holders + [stranger] for stranger in (-HUGE, -1, 0, 9, 11, HUGE) if stranger not in holders]
    for place, holder in enumerate(holders):
        without = holders[:place] + holders[place + 1:]
        wrong.append(without)
        wrong.append(holders + [holder])
        wrong.append([holder] + holders)
        wrong.append(without + [-holder])
        wrong.append(without + [11])
    if len(holders) > 1:
        wrong.append([])
        wrong.append([holders[0]] * len(holders))
    return wrong


def chance_field(chance, holders, most_width):
    """A field in which each of these holders has a strip."""
    many = chance.randint(len(holders), 3 * len(holders))
    chosen = list(holders) + [chance.choice(holders) for _ in range(many - len(holders))]
    chance.shuffle(chosen)
    return [(holder, chance.randint(1, most_width)) for holder in chosen]


def chance_wishes(chance, most):
    """Wishes without a ring, of which some have a holder that may have no strips."""
    hidden = chance.sample(TEN, 10)
    between = list(itertools.combinations(hidden, 2))
    return chance.sample(between, chance.randint(0, most))


def costs_by_exchanges(field):
    """The least cost at which exchanges of neighbours lead to each stand, found by trying them out."""
    own = tuple(range(1, len(field) + 1))
    least = {}
    reached = [(0, own)]
    while reached:
        cost, stand = heapq.heappop(reached)
        if stand in least:
            continue
        least[stand] = cost
        for place in range(1, len(stand)):
            left, right = stand[place - 1], stand[place]
            further = stand[:place - 1] + (right, left) + stand[place + 1:]
            heapq.heappush(reached, (cost + field[left - 1][1] * field[right - 1][1], further))
    return least


def is_melded_by_words(field, wishes):
    """Whether each holder's strips lie side by side and the holders keep the wishes that count."""
    runs = [holder for holder, _ in itertools.groupby(holder for holder, _ in field)]
    places = {holder: place for place, holder in enumerate(runs)}
    counted = [(ahead, behind) for ahead, behind in wishes if ahead in places and behind in places]
    return len(runs) == len(places) and all(places[ahead] < places[behind] for ahead, behind in counted)


def least_by_exchanges(field, wishes):
    """The least cost of exchanges that bring each holder's strips side by side with the wishes kept."""
    return min(cost for stand, cost in costs_by_exchanges(field).items()
               if is_melded_by_words([field[number - 1] for number in stand], wishes))


def village_with(strips, wishes):
    """A village in which these wishes stand, each by a deed of its own."""
    village = Village(strips)
    for ahead, behind in wishes:
        village.wish(ahead, behind)
    return village


def told_of(village):
    """All that a village tells of itself; where a question is refused, the ring in its place."""
    told = [village.strips(), village.wishes(), village.deeds(), village.ring()]
    told += [village.stood(many) for many in range(len(village.deeds()) + 1)]
    for asked in (village.order, village.cost, village.table, village.moves, village.melded):
        try:
            told.append(asked())
        except Ringed as error:
            told.append(("ringed", error.members))
    return told


def full_village(strips):
    """A village in whose book a hundred deeds stand, with the wish (9, 8) put in and dropped in turn."""
    village = Village(strips)
    for _ in range(50):
        village.wish(9, 8)
        village.drop(9, 8)
    return village
