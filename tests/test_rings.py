"""Points 8, 9 and 10: facts that can't be with the others."""

import random
import unittest

from tests import brute
from tests.helpers import WALKERS, WEATHERS, TrackCase, ground_of, letters
from trackorder.errors import Ring


def rings(weathers, facts, fact):
    """The rows that may be told of a fact that is refused; none where it is not refused."""
    shortest = []
    for earlier, later in brute.links_of(fact):
        found = brute.ways(brute.all_links(weathers, facts), later, earlier)
        if found and (not shortest or min(map(len, found)) < len(shortest[0])):
            shortest = [way for way in found if len(way) == min(map(len, found))]
    return [[link[2] for link in way if link[2] is not None] for way in shortest]


class Rows(TrackCase):
    def row(self, ground, *fact):
        return self.refused_alike(ground, Ring, ground.tell, fact).row

    def test_one_fact(self):
        self.assertEqual(self.row(letters("ab"), "over", "b", "a"), [0])

    def test_several_facts_as_they_lie_on_the_way(self):
        # b came ahead of a, c of b, d of c: from the refused link's later thing, d, the way goes by c and b to a.
        self.assertEqual(self.row(letters("ab bc cd"), "over", "d", "a"), [2, 1, 0])
        self.assertEqual(self.row(letters("cd ab bc"), "over", "d", "a"), [0, 2, 1])
        self.assertEqual(self.row(letters("ab bc cd"), "over", "c", "a"), [1, 0])

    def test_numbers_are_those_that_stand(self):
        ground = letters("ab ab bc")
        ground.take(0)
        self.assertEqual(self.row(ground, "over", "c", "a"), [2, 1])
        ground.take(1)
        self.assertEqual(ground.tell(("over", "c", "a")), 3)

    def test_over_links_of_weathers(self):
        ground = ground_of(["a", "b"], WEATHERS, ("ahead", "a", "rain"), ("behind", "b", "wind"))
        self.assertEqual(self.row(ground, "over", "a", "b"), [0, 1])
        ground = ground_of(["a", "b"], WEATHERS, ("amid", "b", "wind"), ("amid", "a", "rain"))
        self.assertEqual(self.row(ground, "over", "a", "b"), [1, 0])

    def test_one_walker_and_weathers(self):
        ground = ground_of(["a"], WEATHERS, ("behind", "a", "snow"))
        for word, weather in [("ahead", "rain"), ("ahead", "snow"), ("amid", "rain"), ("amid", "snow")]:
            self.assertEqual(self.row(ground, word, "a", weather), [0])
        ground = ground_of(["a"], WEATHERS, ("ahead", "a", "snow"))
        for word, weather in [("behind", "wind"), ("behind", "snow"), ("amid", "wind"), ("amid", "snow")]:
            self.assertEqual(self.row(ground, word, "a", weather), [0])

    def test_the_first_link_of_amid(self):
        ground = ground_of(["a", "b"], ["rain"], ("ahead", "b", "rain"), ("over", "b", "a"))
        self.assertEqual(self.row(ground, "amid", "a", "rain"), [1, 0])

    def test_the_second_link_of_amid(self):
        ground = ground_of(["a", "b"], ["rain"], ("behind", "b", "rain"), ("over", "a", "b"))
        self.assertEqual(self.row(ground, "amid", "a", "rain"), [0, 1])

    def test_amid_that_stands(self):
        ground = ground_of(["a"], ["rain"], ("amid", "a", "rain"))
        self.assertEqual(self.row(ground, "ahead", "a", "rain"), [0])
        self.assertEqual(self.row(ground, "behind", "a", "rain"), [0])
        self.assertEqual(ground.tell(("amid", "a", "rain")), 1)

    def test_the_fewest_links_and_not_the_fewest_facts(self):
        # By the weathers b is reached from a by two facts and five links, by c and d by three facts.
        ground = ground_of(["a", "b", "c", "d"], WEATHERS[:2], ("ahead", "a", "rain"), ("behind", "b", "snow"),
                           ("over", "c", "a"), ("over", "d", "c"), ("over", "b", "d"))
        self.assertEqual(self.row(ground, "over", "a", "b"), [2, 3, 4])

    def test_several_ways_as_short(self):
        ground = letters("ba ba ca bc db da")
        self.assertIn(self.row(ground, "over", "a", "b"), [[0], [1]])
        self.assertEqual(self.row(ground, "over", "a", "d"), [5])
        ground = letters("ba ca db dc")
        self.assertIn(self.row(ground, "over", "a", "d"), [[0, 2], [1, 3]])

    def test_the_row_is_a_list_of_its_own(self):
        ground = letters("ab bc")
        self.row(ground, "over", "c", "a").clear()
        self.assertEqual(self.row(ground, "over", "c", "a"), [1, 0])

    def test_settle_tells_the_row_as_tell_does(self):
        ground = letters("ab bc")
        ground.cross("c", "a")
        self.assertEqual(self.refused_alike(ground, Ring, ground.settle, 2, "c").row, [1, 0])
        self.assertEqual(ground.settle(2, "a"), 2)
        ground = ground_of(["a", "b"], ["rain"], ("behind", "b", "rain"), ("ahead", "a", "rain"))
        ground.cross("a", "b")
        self.assertEqual(self.refused_alike(ground, Ring, ground.settle, 2, "a").row, [1, 0])

    def test_the_next_number_is_as_it_was(self):
        ground = letters("ab")
        self.row(ground, "over", "b", "a")
        self.assertEqual(ground.tell(("over", "a", "b")), 1)

    def test_open_pairs_make_no_ring(self):
        ground = ground_of(["a", "b"], ["rain"], ("amid", "a", "rain"), ("amid", "b", "rain"))
        self.assertEqual(ground.tell(("over", "a", "b")), 2)


class ByChance(TrackCase):
    def test_tell_on_many_grounds(self):
        for _, _, facts, walkers, weathers in brute.grounds(60, WALKERS[:5], WEATHERS, 10):
            ground = ground_of(walkers, weathers, *facts.values())
            for fact in brute.all_facts(walkers, weathers):
                allowed = rings(weathers, facts, fact)
                if allowed:
                    self.assertIn(self.refused(Ring, ground.tell, fact).row, allowed)
                else:
                    self.assertGreaterEqual(ground.tell(fact), len(facts))
                    ground.take(max(ground.told()[0]))

    def test_settle_on_many_grounds(self):
        chance = random.Random(5)
        for _, _, facts, walkers, weathers in brute.grounds(100, WALKERS[:5], WEATHERS, 10):
            if len(walkers) < 2:
                continue
            ground = ground_of(walkers, weathers, *facts.values())
            one, other = chance.sample(walkers, 2)
            number = ground.cross(one, other)
            allowed = rings(weathers, facts, ("over", one, other))
            if allowed:
                self.assertIn(self.refused_alike(ground, Ring, ground.settle, number, one).row, allowed)
            else:
                self.assertEqual(ground.settle(number, one), number)


if __name__ == "__main__":
    unittest.main()
