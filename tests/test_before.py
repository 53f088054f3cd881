"""Point 11: who came ahead of whom, and why."""

import unittest

from tests import brute
from tests.helpers import WALKERS, WEATHERS, TrackCase, ground_of, letters, walker
from trackorder.errors import NoSuch
from trackorder.ground import Ground


class Ways(TrackCase):
    def test_yes_and_no(self):
        ground = letters("ab bc")
        way = [(walker("c"), walker("b"), 1), (walker("b"), walker("a"), 0)]
        self.assertEqual(ground.before(walker("c"), walker("a")), ("yes", way))
        self.assertEqual(ground.before(walker("a"), walker("c")), ("no", way))
        self.assertEqual(ground.before(walker("b"), walker("a")), ("yes", way[1:]))

    def test_links_of_weathers_have_no_number(self):
        ground = ground_of(["a", "b"], ["rain", "snow"], ("amid", "a", "rain"), ("behind", "b", "snow"))
        way = [(walker("a"), ("end", "rain"), 0), (("end", "rain"), ("begin", "snow"), None),
               (("begin", "snow"), ("end", "snow"), None), (("end", "snow"), walker("b"), 1)]
        self.assertEqual(ground.before(walker("a"), walker("b")), ("yes", way))
        self.assertEqual(ground.before(walker("b"), walker("a")), ("no", way))
        self.assertEqual(ground.before(("end", "snow"), ("begin", "rain")), ("no", [
            (("begin", "rain"), ("end", "rain"), None), (("end", "rain"), ("begin", "snow"), None),
            (("begin", "snow"), ("end", "snow"), None)]))

    def test_the_links_of_each_word(self):
        ground = ground_of(["a", "b", "c"], ["rain"], ("ahead", "a", "rain"), ("amid", "b", "rain"),
                           ("behind", "c", "rain"))
        begin, end = ("begin", "rain"), ("end", "rain")
        for earlier, later, number in [(walker("a"), begin, 0), (begin, walker("b"), 1), (walker("b"), end, 1),
                                       (end, walker("c"), 2)]:
            self.assertEqual(ground.before(earlier, later), ("yes", [(earlier, later, number)]))

    def test_the_fewest_links(self):
        ground = letters("ba cb dc da")
        self.assertEqual(ground.before(walker("a"), walker("d")), ("yes", [(walker("a"), walker("d"), 3)]))
        ground = ground_of(["a", "b"], ["rain", "snow"], ("ahead", "a", "rain"), ("behind", "b", "snow"),
                           ("over", "b", "a"))
        self.assertEqual(ground.before(walker("a"), walker("b")), ("yes", [(walker("a"), walker("b"), 2)]))

    def test_numbers_of_facts_that_stand(self):
        ground = letters("ab ab")
        ground.take(0)
        ground.cross("a", "b")
        self.assertEqual(ground.before(walker("b"), walker("a")), ("yes", [(walker("b"), walker("a"), 1)]))
        ground.take(1)
        self.assertEqual(ground.before(walker("b"), walker("a"))[0], "open")
        ground.settle(2, "b")
        self.assertEqual(ground.before(walker("b"), walker("a")), ("no", [(walker("a"), walker("b"), 2)]))


class Open(TrackCase):
    def test_two_walkers(self):
        one, other = walker("ann"), walker("bob")
        ground = Ground(["ann", "bob"], [])
        self.assertEqual(ground.before(one, other), ("open", [one, other], [other, one]))
        self.assertEqual(ground.before(other, one), ("open", [other, one], [one, other]))

    def test_a_crossing_tells_nothing(self):
        ground = Ground(["ann", "bob"], [])
        ground.cross("ann", "bob")
        self.assertEqual(ground.before(walker("ann"), walker("bob"))[0], "open")

    def test_a_walker_and_a_moment(self):
        ground = ground_of(["ann"], ["rain"], ("behind", "ann", "rain"))
        ground.take(0)
        begin, end, ann = ("begin", "rain"), ("end", "rain"), walker("ann")
        self.assertEqual(ground.before(ann, begin)[1], [ann, begin, end])
        self.assertEqual(ground.before(end, ann), ("open", [begin, end, ann], ground.before(ann, end)[1]))


class Refused(TrackCase):
    def test_what_is_no_thing(self):
        ground = ground_of(["ann", "bob"], ["rain"])
        ann = walker("ann")
        for thing in [walker("cid"), walker("rain"), ("begin", "ann"), ("begin", "snow"), ("end", "bob"), ("ann",),
                      (), ("weather", "rain"), ("walker", "ann", "ann"), ("ann", "walker"), ("over", "ann", "bob")]:
            self.refused_alike(ground, NoSuch, ground.before, ann, thing)
            self.refused_alike(ground, NoSuch, ground.before, thing, ann)
            self.refused_alike(ground, NoSuch, ground.before, thing, thing)

    def test_one_thing_twice(self):
        ground = ground_of(["ann", "bob"], ["rain"])
        for thing in ground.things():
            self.refused_alike(ground, NoSuch, ground.before, thing, thing)


class ByChance(TrackCase):
    def check_way(self, way, start, goal, links, steps):
        self.assertEqual([link for link in way if link not in links], [])
        self.assertEqual([link[0] for link in way] + [goal], [start] + [link[1] for link in way])
        self.assertEqual(len(way), steps)

    def check_order(self, order, things, links, first, second):
        self.assertEqual(sorted(order), sorted(things))
        self.assertTrue(brute.keeps_to(order, links))
        self.assertLess(order.index(first), order.index(second))

    def test_all_pairs_of_many_grounds(self):
        seen = {"yes": 0, "no": 0, "open": 0}
        for things, links, facts, walkers, weathers in brute.grounds(150, WALKERS, WEATHERS, 14):
            ground = ground_of(walkers, weathers, *facts.values())
            far = brute.distances(things, links)
            for one in things:
                for other in things:
                    if one == other:
                        continue
                    found = ground.before(one, other)
                    seen[found[0]] += 1
                    if (one, other) in far:
                        self.assertEqual((found[0], len(found)), ("yes", 2))
                        self.check_way(found[1], one, other, links, far[one, other])
                    elif (other, one) in far:
                        self.assertEqual((found[0], len(found)), ("no", 2))
                        self.check_way(found[1], other, one, links, far[other, one])
                    else:
                        self.assertEqual((found[0], len(found)), ("open", 3))
                        self.check_order(found[1], things, links, one, other)
                        self.check_order(found[2], things, links, other, one)
        self.assertGreater(min(seen.values()), 1000)


if __name__ == "__main__":
    unittest.main()
