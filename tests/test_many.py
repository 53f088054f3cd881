"""Points 12 and 13: orders, and how many there are."""

import math
import unittest

from tests import brute
from tests.helpers import WALKERS, WEATHERS, TrackCase, ground_of, letters, walker
from trackorder.ground import Ground


class One(TrackCase):
    def test_no_things(self):
        self.assertEqual(Ground([], []).order(), ("one", []))
        self.assertEqual(Ground([], []).many(), 1)

    def test_one_walker(self):
        self.assertEqual(Ground(["ann"], []).order(), ("one", [walker("ann")]))

    def test_weathers_alone(self):
        ground = Ground([], ["snow", "rain"])
        self.assertEqual(ground.order(), ("one", ground.things()))
        self.assertEqual(ground.many(), 1)

    def test_walkers_one_over_another(self):
        ground = letters("ab bc cd")
        self.assertEqual(ground.order(), ("one", [walker(name) for name in "dcba"]))
        self.assertEqual(ground.many(), 1)

    def test_walkers_among_the_weathers(self):
        ground = ground_of(["a", "b", "c", "d"], ["rain", "snow"], ("amid", "c", "snow"), ("ahead", "b", "rain"),
                           ("amid", "d", "rain"), ("behind", "a", "snow"))
        order = [walker("b"), ("begin", "rain"), walker("d"), ("end", "rain"), ("begin", "snow"), walker("c"),
                 ("end", "snow"), walker("a")]
        self.assertEqual(ground.order(), ("one", order))
        self.assertEqual(ground.many(), 1)


class Parted(TrackCase):
    def check_parted(self, found, things, links):
        self.assertEqual((found[0], len(found)), ("parted", 3))
        for order in found[1:]:
            self.assertEqual(sorted(order), sorted(things))
            self.assertTrue(brute.keeps_to(order, links))
        unlike = [at for at in range(len(things)) if found[1][at] != found[2][at]]
        self.assertEqual(len(unlike), 2)
        first, second = unlike
        self.assertEqual(second, first + 1)
        self.assertEqual(found[1][first:second + 1], found[2][first:second + 1][::-1])

    def test_two_walkers(self):
        self.check_parted(Ground(["ann", "bob"], []).order(), [walker("ann"), walker("bob")], [])

    def test_nothing_told(self):
        ground = Ground(WALKERS, WEATHERS)
        self.check_parted(ground.order(), ground.things(), brute.all_links(WEATHERS, {}))

    def test_only_the_last_two_are_loose(self):
        ground = letters("ac bc")
        self.check_parted(ground.order(), ground.things(), brute.all_links([], ground.told()[0]))
        ground = letters("ba cb da ea db eb dc ec")
        self.check_parted(ground.order(), ground.things(), brute.all_links([], ground.told()[0]))

    def test_only_the_first_two_are_loose(self):
        ground = letters("ca cb dc")
        self.check_parted(ground.order(), ground.things(), brute.all_links([], ground.told()[0]))
        self.assertEqual(ground.many(), 2)

    def test_many_grounds(self):
        seen = {"one": 0, "parted": 0}
        for seed_most in (6, 20, 60):
            for things, links, facts, walkers, weathers in brute.grounds(150, WALKERS[:5], WEATHERS, seed_most):
                ground = ground_of(walkers, weathers, *facts.values())
                found = ground.order()
                seen[found[0]] += 1
                pairs = brute.follows(things, links)
                if len(pairs) == len(things) * (len(things) - 1) // 2:
                    self.assertEqual(found[0], "one")
                    self.assertEqual(ground.many(), 1)
                    self.assertEqual(len(found), 2)
                    self.assertEqual(sorted(found[1]), sorted(things))
                    self.assertTrue(brute.keeps_to(found[1], links))
                else:
                    self.check_parted(found, things, links)
        self.assertGreater(min(seen.values()), 30)


class Many(TrackCase):
    def test_nothing_told(self):
        for walkers in range(9):
            for weathers in range(4):
                things = walkers + 2 * weathers
                orders = math.factorial(things) // math.factorial(2 * weathers)
                self.assertEqual(Ground(WALKERS[:walkers], WEATHERS[:weathers]).many(), orders)

    def test_one_told(self):
        ground = ground_of(WALKERS, [], ("over", "ann", "bob"))
        self.assertEqual(ground.many(), math.factorial(8) // 2)
        ground.cross("cid", "dot")
        self.assertEqual(ground.many(), math.factorial(8) // 2)
        ground.settle(1, "dot")
        self.assertEqual(ground.many(), math.factorial(8) // 4)
        ground.take(0)
        ground.take(1)
        self.assertEqual(ground.many(), math.factorial(8))

    def test_all_walkers_amid_one_weather(self):
        facts = [("amid", name, "snow") for name in WALKERS]
        self.assertEqual(ground_of(WALKERS, WEATHERS, *facts).many(), math.factorial(8))

    def test_walkers_in_two_rows(self):
        pairs = "ab bc cd ef fg gh"
        self.assertEqual(letters(pairs).many(), math.comb(8, 4))
        self.assertEqual(letters(pairs + " ae bf cg dh").many(), 14)

    def test_much_told(self):
        facts = [("over", WALKERS[at], WALKERS[to]) for at in range(8) for to in range(at + 1, 8)]
        self.assertEqual(ground_of(WALKERS, [], *facts).many(), 1)
        self.assertEqual(ground_of(WALKERS, WEATHERS, *facts).many(), math.comb(14, 6))
        self.assertEqual(ground_of(WALKERS, WEATHERS, *facts, *facts).many(), math.comb(14, 6))

    def test_many_grounds(self):
        for most in (4, 16):
            for things, links, facts, walkers, weathers in brute.grounds(60, WALKERS[:4], WEATHERS[:2], most):
                if len(things) <= 7:
                    ground = ground_of(walkers, weathers, *facts.values())
                    self.assertEqual(ground.many(), len(brute.orders(things, links)))


if __name__ == "__main__":
    unittest.main()
