"""Points 2, 3, 4 and 6: names, things, and the pairs that follow from facts and weathers."""

import unittest

from tests import brute
from tests.helpers import WALKERS, WEATHERS, TrackCase, ground_of
from trackorder.errors import Full, NoFact
from trackorder.ground import Ground


class Things(TrackCase):
    def test_walkers_stand_by_their_names_and_weathers_as_handed_in(self):
        ground = Ground(["cid", "ann", "bob"], ["wind", "rain"])
        self.assertEqual(ground.things(), [
            ("walker", "ann"), ("walker", "bob"), ("walker", "cid"),
            ("begin", "wind"), ("end", "wind"), ("begin", "rain"), ("end", "rain")])

    def test_names_that_begin_alike(self):
        self.assertEqual(Ground(["ab", "b", "a", "aa"], []).things(),
                         [("walker", "a"), ("walker", "aa"), ("walker", "ab"), ("walker", "b")])

    def test_none_at_all(self):
        self.assertEqual(Ground([], []).things(), [])

    def test_no_walkers(self):
        self.assertEqual(Ground([], ["rain"]).things(), [("begin", "rain"), ("end", "rain")])

    def test_no_weather(self):
        self.assertEqual(Ground(["ann"], []).things(), [("walker", "ann")])

    def test_eight_walkers_and_three_weathers(self):
        things = Ground(list(reversed(WALKERS)), WEATHERS).things()
        self.assertEqual(things, brute.things_of(WALKERS, WEATHERS))
        self.assertEqual(len(things), 14)


class Names(TrackCase):
    def test_too_many(self):
        self.refused(Full, Ground, WALKERS + ["ida"], [])
        self.refused(Full, Ground, [], WEATHERS + ["fog"])
        self.refused(Full, Ground, list("abcdefghijkl"), list("mnopqrs"))

    def test_full_comes_ahead_of_no_fact(self):
        self.refused(Full, Ground, WALKERS + ["ann"], [])
        self.refused(Full, Ground, WALKERS + ["X"], [])
        self.refused(Full, Ground, ["X", "X"], WEATHERS + ["fog"])
        self.refused(Full, Ground, ["ann"], WEATHERS + ["ann"])

    def test_what_is_no_name(self):
        for name in ["", "abcdefghi", "Ann", "ANN", "a1", "a b", "a_b", "a-b", " a", "a ", "a\n", "\t", "1",
                     "\u00e9", "\u00df", "\u03b1", "a\u0301", "\u00aa", "`", "{"]:
            self.refused(NoFact, Ground, [name], [])
            self.refused(NoFact, Ground, [], [name])
            self.refused(NoFact, Ground, ["ann", "bob", name], ["rain"])
            self.refused(NoFact, Ground, ["ann"], ["rain", name])

    def test_names_of_one_to_eight_letters(self):
        ground = Ground(["a", "z", "abcdefgh"], ["stuvwxyz", "m"])
        self.assertEqual(len(ground.things()), 7)
        self.assertEqual(len(Ground(list("ijklmnop"), ["q", "r", "s"]).things()), 14)

    def test_names_that_stand_twice(self):
        self.refused(NoFact, Ground, ["ann", "bob", "ann"], [])
        self.refused(NoFact, Ground, ["ann"], ["rain", "rain"])
        self.refused(NoFact, Ground, ["ann", "bob"], ["rain", "bob"])


class Pairs(TrackCase):
    def told(self, *facts):
        ground = ground_of(["ann", "bob"], ["rain", "snow"], *facts)
        own = [("begin", "rain"), ("end", "rain"), ("begin", "snow"), ("end", "snow")]
        weathers = [(own[at], own[to]) for at in range(4) for to in range(at + 1, 4)]
        for pair in weathers:
            self.assertIn(pair, ground.pairs())
        return [pair for pair in ground.pairs() if pair not in weathers]

    def test_weathers_alone(self):
        self.assertEqual(self.told(), [])

    def test_over(self):
        self.assertEqual(self.told(("over", "ann", "bob")), [(("walker", "bob"), ("walker", "ann"))])
        self.assertEqual(self.told(("over", "bob", "ann")), [(("walker", "ann"), ("walker", "bob"))])

    def test_ahead(self):
        ann = ("walker", "ann")
        self.assertEqual(self.told(("ahead", "ann", "snow")), [(ann, ("begin", "snow")), (ann, ("end", "snow"))])
        self.assertEqual(self.told(("ahead", "ann", "rain")), [
            (ann, ("begin", "rain")), (ann, ("end", "rain")), (ann, ("begin", "snow")), (ann, ("end", "snow"))])

    def test_amid(self):
        bob = ("walker", "bob")
        self.assertEqual(self.told(("amid", "bob", "rain")), [
            (bob, ("end", "rain")), (bob, ("begin", "snow")), (bob, ("end", "snow")), (("begin", "rain"), bob)])
        self.assertEqual(self.told(("amid", "bob", "snow")), [
            (bob, ("end", "snow")), (("begin", "rain"), bob), (("end", "rain"), bob), (("begin", "snow"), bob)])

    def test_behind(self):
        bob = ("walker", "bob")
        self.assertEqual(self.told(("behind", "bob", "rain")), [(("begin", "rain"), bob), (("end", "rain"), bob)])
        self.assertEqual(self.told(("behind", "bob", "snow")), [
            (("begin", "rain"), bob), (("end", "rain"), bob), (("begin", "snow"), bob), (("end", "snow"), bob)])

    def test_by_several_links(self):
        ann, bob = ("walker", "ann"), ("walker", "bob")
        self.assertIn((ann, bob), self.told(("ahead", "ann", "rain"), ("behind", "bob", "snow")))
        self.assertIn((ann, bob), self.told(("amid", "ann", "rain"), ("amid", "bob", "snow")))
        self.assertNotIn((ann, bob), self.told(("amid", "ann", "rain"), ("amid", "bob", "rain")))
        self.assertIn((bob, ("begin", "snow")), self.told(("over", "ann", "bob"), ("ahead", "ann", "snow")))

    def test_pairs_of_many_grounds(self):
        for things, links, facts, walkers, weathers in brute.grounds(200, WALKERS, WEATHERS, 12):
            ground = ground_of(walkers, weathers, *facts.values())
            self.assertEqual(ground.pairs(), brute.follows(things, links))


if __name__ == "__main__":
    unittest.main()
