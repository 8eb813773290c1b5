"""What the tests of several files need."""

import copy
import itertools
import unittest

HUGE = 10 ** 5000


class MeldCase(unittest.TestCase):
    def ask(self, function, *handed):
        """What the function tells; the lists handed in must stay as they were."""
        kept = copy.deepcopy(handed)
        told = function(*handed)
        self.assertEqual(handed, kept)
        return told

    def refuse(self, error, function, *handed):
        """The function must refuse with that very class, and leave the lists as they were; the error is told."""
        kept = copy.deepcopy(handed)
        with self.assertRaises(error) as caught:
            function(*handed)
        self.assertIs(caught.exception.__class__, error)
        self.assertEqual(handed, kept)
        return caught.exception

    def check_kinds(self, told, kind):
        """A told list must be a list, and each of its members of that very kind."""
        self.assertIs(told.__class__, list)
        for member in told:
            self.assertIs(member.__class__, kind)


def pair_by_words(field, ahead, behind):
    """The pair cost, told as plainly as the document does."""
    cost = 0
    for place, (holder, width) in enumerate(field):
        for left_holder, left_width in field[:place]:
            if ahead != behind and holder == ahead and left_holder == behind:
                cost += width * left_width
    return cost


def small_fields(most, holders=(1, 2, 3)):
    """Every field of up to `most` strips over these holders, with widths that no mix-up leaves unseen."""
    for many in range(most + 1):
        for chosen in itertools.product(holders, repeat=many):
            yield [(holder, 5 ** place + place) for place, holder in enumerate(chosen)]


def wrong_orders(strips):
    """Lists of numbers that are no order of the field."""
    holders = sorted({holder for holder, _ in strips})
    wrong = [holders + [stranger] for stranger in (-HUGE, -1, 0, 9, 11, HUGE) if stranger not in holders]
    for place, holder in enumerate(holders):
        without = holders[:place] + holders[place + 1:]
        wrong.append(without)
        wrong.append(holders + [holder])
        wrong.append([holder] + holders)
        wrong.append(without + [-holder])
        wrong.append(without + [11])
    if len(holders) > 1:
        wrong.append([])
        wrong.append([holders[0]] * len(holders))
    return wrong
