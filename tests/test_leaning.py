"""Point 14: which pairs lean on which facts, and which facts are needed."""

import unittest

from tests import brute
from tests.helpers import WALKERS, WEATHERS, TrackCase, ground_of, letters, walker
from trackorder.errors import NoSuch
from trackorder.ground import Ground


def pairs_of(text):
    return [(walker(pair[0]), walker(pair[1])) for pair in text.split()]


class Leans(TrackCase):
    def test_pairs_stand_in_their_order(self):
        ground = letters("ba cb dc")
        self.assertEqual(ground.pairs(), pairs_of("ab ac ad bc bd cd"))
        self.assertEqual(ground.leans(0), pairs_of("ab ac ad"))
        self.assertEqual(ground.leans(1), pairs_of("ac ad bc bd"))
        self.assertEqual(ground.leans(2), pairs_of("ad bd cd"))

    def test_pairs_of_unlike_kinds(self):
        ground = ground_of(["b", "a"], ["snow", "rain"], ("amid", "a", "rain"), ("behind", "b", "rain"))
        moments = [("begin", "snow"), ("end", "snow"), ("begin", "rain"), ("end", "rain")]
        self.assertEqual(ground.pairs(), [
            (walker("a"), walker("b")), (walker("a"), moments[3]),
            (moments[0], walker("a")), (moments[0], walker("b")), *[(moments[0], one) for one in moments[1:]],
            (moments[1], walker("a")), (moments[1], walker("b")), *[(moments[1], one) for one in moments[2:]],
            (moments[2], walker("a")), (moments[2], walker("b")), (moments[2], moments[3]),
            (moments[3], walker("b"))])
        self.assertEqual(ground.leans(0), [
            (walker("a"), walker("b")), (walker("a"), moments[3]),
            (moments[0], walker("a")), (moments[1], walker("a")), (moments[2], walker("a"))])

    def test_nothing_leans_on_what_is_told_twice(self):
        ground = letters("ab ab")
        self.assertEqual((ground.leans(0), ground.leans(1)), ([], []))
        ground.take(0)
        self.assertEqual(ground.leans(1), pairs_of("ba"))

    def test_nothing_leans_on_what_follows_from_others(self):
        self.assertEqual(letters("ab bc ac").leans(2), [])

    def test_a_settled_crossing_is_a_fact(self):
        ground = Ground(["a", "b"], [])
        ground.cross("a", "b")
        self.refused_alike(ground, NoSuch, ground.leans, 0)
        ground.settle(0, "b")
        self.assertEqual(ground.leans(0), pairs_of("ab"))

    def test_refused(self):
        ground = letters("ab bc")
        ground.cross("a", "b")
        ground.take(0)
        for number in (-1, 0, 2, 3, 99):
            self.refused_alike(ground, NoSuch, ground.leans, number)


class Needless(TrackCase):
    def test_nothing_told(self):
        self.assertEqual(Ground(WALKERS, WEATHERS).needless(), [])
        self.assertEqual(Ground([], []).kept(), [])

    def test_told_twice(self):
        ground = letters("ab ab bc ab")
        self.assertEqual(ground.needless(), [0, 1, 3])
        self.assertEqual(ground.kept(), [2, 3])

    def test_what_follows_from_others(self):
        ground = letters("ac ab bc")
        self.assertEqual(ground.needless(), [0])
        self.assertEqual(ground.kept(), [1, 2])
        ground = letters("ab bc ac")
        self.assertEqual(ground.needless(), [2])
        self.assertEqual(ground.kept(), [0, 1])

    def test_kept_goes_by_what_was_left_out_ahead(self):
        # Without 0 or without 3 all pairs follow still, without both they don't.
        ground = letters("ab bc ac ab")
        self.assertEqual(ground.needless(), [0, 2, 3])
        self.assertEqual(ground.kept(), [1, 3])

    def test_over_weathers(self):
        ground = ground_of(["a", "b"], ["rain"], ("over", "b", "a"), ("ahead", "a", "rain"), ("behind", "b", "rain"))
        self.assertEqual(ground.needless(), [0])
        self.assertEqual(ground.kept(), [1, 2])

    def test_weathers_need_no_fact(self):
        ground = ground_of(["a"], ["rain", "snow"], ("behind", "a", "rain"), ("behind", "a", "snow"))
        self.assertEqual(ground.needless(), [0])
        self.assertEqual(ground.kept(), [1])

    def test_a_fact_with_one_of_its_links_needless(self):
        ground = ground_of(["a", "b"], ["rain"], ("amid", "b", "rain"), ("over", "a", "b"), ("amid", "a", "rain"))
        self.assertEqual(ground.needless(), [])
        self.assertEqual(ground.kept(), [0, 1, 2])

    def test_crossings_are_no_facts(self):
        ground = Ground(["a", "b"], [])
        ground.cross("a", "b")
        ground.cross("a", "b")
        self.assertEqual((ground.needless(), ground.kept()), ([], []))
        ground.tell(("over", "a", "b"))
        ground.settle(0, "a")
        self.assertEqual((ground.needless(), ground.kept()), ([0, 2], [2]))

    def test_sixty_alike(self):
        ground = ground_of(["a", "b"], [], *[("over", "a", "b")] * 60)
        self.assertEqual(ground.needless(), list(range(60)))
        self.assertEqual(ground.kept(), [59])


class ByChance(TrackCase):
    def without(self, things, weathers, facts, left_out):
        rest = {number: fact for number, fact in facts.items() if number not in left_out}
        return brute.follows(things, brute.all_links(weathers, rest))

    def test_many_grounds(self):
        for things, links, facts, walkers, weathers in brute.grounds(60, WALKERS[:4], WEATHERS[:2], 14):
            ground = ground_of(walkers, weathers, *facts.values())
            pairs = brute.follows(things, links)
            needless = []
            left_out = []
            for number in facts:
                rest = self.without(things, weathers, facts, [number])
                self.assertEqual(ground.leans(number), [pair for pair in pairs if pair not in rest])
                if rest == pairs:
                    needless.append(number)
                if self.without(things, weathers, facts, left_out + [number]) == pairs:
                    left_out.append(number)
            self.assertEqual(ground.needless(), needless)
            self.assertEqual(ground.kept(), [number for number in facts if number not in left_out])


if __name__ == "__main__":
    unittest.main()
