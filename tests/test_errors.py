import unittest

from stripmeld import errors

STRAIGHT = (
    "TooManyStrips", "BadHolder", "BadWidth", "NoStrip", "BadOrder", "TooManyStands", "OwnStrip", "BadPart",
    "UnlikeHolders", "TooWide", "LikeHolders", "WishStands", "TooManyWishes", "NoWish", "BookFull",
    "NothingDone", "NoSuchDeed", "Ringed",
)


class ErrorsTest(unittest.TestCase):
    def test_meld_error_stands_straight_under_value_error(self):
        self.assertEqual(errors.MeldError.__bases__, (ValueError,))

    def test_each_class_stands_straight_under_meld_error(self):
        for name in STRAIGHT:
            with self.subTest(name):
                self.assertEqual(getattr(errors, name).__bases__, (errors.MeldError,))

    def test_each_class_is_one_of_its_own(self):
        self.assertEqual(len({getattr(errors, name) for name in STRAIGHT}), len(STRAIGHT))

    def test_each_is_taken_by_its_name_and_as_any_refusal(self):
        for name in STRAIGHT:
            error = getattr(errors, name)
            for taken in (error, errors.MeldError, ValueError):
                with self.subTest(name, taken=taken), self.assertRaises(taken):
                    raise error([1, 2])

    def test_ringed_tells_its_members(self):
        self.assertEqual(errors.Ringed([1, 4, 2]).members, [1, 4, 2])
        self.assertIs(errors.Ringed([1, 4, 2]).members.__class__, list)

    def test_ringed_keeps_its_members_when_the_list_is_changed(self):
        ring = [1, 4, 2]
        error = errors.Ringed(ring)
        ring.append(9)
        self.assertEqual(error.members, [1, 4, 2])
        error.members.append(8)
        self.assertEqual(ring, [1, 4, 2, 9])

    def test_two_ringed_share_nothing(self):
        ring = [3, 5]
        first = errors.Ringed(ring)
        second = errors.Ringed(ring)
        first.members.clear()
        self.assertEqual(second.members, [3, 5])


if __name__ == "__main__":
    unittest.main()
