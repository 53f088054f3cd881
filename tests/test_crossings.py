"""Point 15: crossings that are open, and which of them to look at."""

import unittest

from tests import brute
from tests.helpers import WALKERS, WEATHERS, TrackCase, ground_of, letters
from trackorder.ground import Ground


class OpenCrossings(TrackCase):
    def test_none(self):
        self.assertEqual(Ground([], []).open_crossings(), [])
        self.assertEqual(letters("ab").open_crossings(), [])

    def test_as_handed_in_by_numbers(self):
        ground = Ground(["a", "b", "c"], [])
        for one, other in [("b", "a"), ("a", "b"), ("c", "a"), ("b", "a")]:
            ground.cross(one, other)
        self.assertEqual(ground.open_crossings(), [(0, "b", "a"), (1, "a", "b"), (2, "c", "a"), (3, "b", "a")])

    def test_those_that_follow_are_left_out(self):
        ground = letters("ab bc")
        ground.cross("a", "c")
        ground.cross("c", "a")
        ground.cross("b", "a")
        self.assertEqual(ground.open_crossings(), [])
        ground.take(1)
        self.assertEqual(ground.open_crossings(), [(2, "a", "c"), (3, "c", "a")])

    def test_what_follows_over_weathers_is_left_out(self):
        ground = ground_of(["a", "b", "c"], ["rain"], ("ahead", "a", "rain"), ("amid", "b", "rain"))
        ground.cross("b", "a")
        ground.cross("b", "c")
        self.assertEqual(ground.open_crossings(), [(3, "b", "c")])

    def test_settled_and_taken_ones_are_gone(self):
        ground = Ground(["a", "b", "c", "d"], [])
        for one, other in [("a", "b"), ("c", "d"), ("b", "c")]:
            ground.cross(one, other)
        ground.settle(0, "a")
        ground.take(1)
        self.assertEqual(ground.open_crossings(), [(2, "b", "c")])


class Look(TrackCase):
    def test_no_open_crossing(self):
        self.assertIsNone(Ground(WALKERS, WEATHERS).look())
        ground = letters("ab")
        ground.cross("a", "b")
        self.assertIsNone(ground.look())

    def test_one_open_crossing(self):
        ground = letters("ac bc bc")
        ground.cross("b", "a")
        self.assertEqual(ground.look(), (3, 1, 1))

    def test_which_number_stands_for_which_walker(self):
        # a, b and c came in this order: d has one place ahead of a, and three behind it.
        facts = [("over", "b", "a"), ("over", "c", "b")]
        ground = ground_of(["a", "b", "c", "d"], [], *facts)
        ground.cross("a", "d")
        self.assertEqual(ground.look(), (2, 1, 3))
        ground = ground_of(["a", "b", "c", "d"], [], *facts)
        ground.cross("d", "a")
        self.assertEqual(ground.look(), (2, 3, 1))

    def test_the_least_of_the_greater_ones(self):
        ground = ground_of(["a", "b", "c", "d"], [], ("over", "b", "a"), ("over", "c", "b"))
        ground.cross("a", "d")
        ground.cross("d", "b")
        ground.cross("c", "d")
        self.assertEqual(ground.look(), (3, 2, 2))
        ground.take(3)
        self.assertEqual(ground.look(), (2, 1, 3))

    def test_the_lowest_number_of_several_as_good(self):
        ground = Ground(["a", "b", "c"], [])
        for one, other in [("c", "b"), ("a", "b"), ("b", "c")]:
            ground.cross(one, other)
        self.assertEqual(ground.look(), (0, 3, 3))
        ground.take(0)
        self.assertEqual(ground.look(), (1, 3, 3))

    def test_as_good_the_other_way_round(self):
        ground = ground_of(["a", "b", "c", "d"], [], ("over", "b", "a"), ("over", "c", "b"))
        ground.cross("d", "a")
        ground.cross("c", "d")
        self.assertEqual(ground.look(), (2, 3, 1))
        ground.take(2)
        self.assertEqual(ground.look(), (3, 3, 1))

    def test_numbers_taken_out_do_not_count(self):
        ground = Ground(["a", "b", "c"], [])
        ground.cross("a", "b")
        ground.cross("b", "c")
        ground.take(0)
        ground.cross("a", "b")
        self.assertEqual(ground.look()[0], 1)

    def test_look_changes_nothing(self):
        ground = Ground(["a", "b"], ["rain"])
        ground.cross("a", "b")
        self.assertEqual(ground.look(), (0, 6, 6))
        self.assertEqual(ground.look(), (0, 6, 6))
        self.assertEqual((ground.many(), ground.told()), (12, ({}, {0: ("a", "b")})))

    def test_a_full_ground(self):
        ground = Ground(WALKERS, WEATHERS)
        for number in range(60):
            ground.cross(WALKERS[number % 8], WALKERS[(number + 1) % 8])
        self.assertEqual(ground.look(), (0, ground.many() // 2, ground.many() // 2))

    def test_many_grounds(self):
        seen = 0
        for things, links, facts, walkers, weathers in brute.grounds(60, WALKERS[:4], WEATHERS[:1], 5):
            ground = ground_of(walkers, weathers, *facts.values())
            pairs = brute.follows(things, links)
            found = []
            for one in walkers:
                for other in reversed(walkers):
                    here = (("walker", one), ("walker", other))
                    if one != other:
                        number = ground.cross(one, other)
                        if here not in pairs and here[::-1] not in pairs:
                            found.append((number, one, other))
            self.assertEqual(ground.open_crossings(), found)
            best = None
            for number, one, other in found:
                over = len(brute.orders(things, links + brute.all_links([], {number: ("over", one, other)})))
                under = len(brute.orders(things, links + brute.all_links([], {number: ("over", other, one)})))
                if best is None or max(over, under) < max(best[1:]):
                    best = (number, over, under)
            self.assertEqual(ground.look(), best)
            seen += best is not None
        self.assertGreater(seen, 20)


if __name__ == "__main__":
    unittest.main()
