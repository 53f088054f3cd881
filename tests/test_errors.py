"""The refusals: which is taken by which, and their values."""

import unittest

from trackorder.errors import BadText, Full, NoFact, NoSuch, Ring, TrackError

REFUSALS = [NoFact("no"), NoSuch("no"), Full("no"), Ring([1, 2]), BadText(3)]


class Errors(unittest.TestCase):
    def test_each_is_taken_by_track_error_and_value_error(self):
        self.assertEqual(TrackError.__bases__, (ValueError,))
        for refusal in REFUSALS:
            self.assertEqual(refusal.__class__.__bases__, (TrackError,))
            for kind in (TrackError, ValueError):
                with self.assertRaises(kind):
                    raise refusal

    def test_none_is_taken_by_another_one(self):
        for at, refusal in enumerate(REFUSALS):
            for place, other in enumerate(REFUSALS):
                self.assertEqual(isinstance(refusal, other.__class__), at == place)

    def test_values_are_set(self):
        self.assertEqual(Ring([4, 0, 4]).row, [4, 0, 4])
        self.assertEqual(Ring([]).row, [])
        self.assertEqual(BadText(0).row, 0)

    def test_a_ring_does_not_keep_the_list(self):
        row = [1, 2]
        ring = Ring(row)
        row.append(3)
        self.assertEqual(ring.row, [1, 2])


if __name__ == "__main__":
    unittest.main()
