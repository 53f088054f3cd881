"""Points 5, 7, 9 and 10: putting in, taking out and settling, by numbers."""

import unittest

from tests.helpers import WALKERS, WEATHERS, TrackCase, ground_of
from trackorder.errors import Full, NoFact, NoSuch, Ring
from trackorder.ground import Ground


def full_ground(facts=30):
    """Sixty numbers: facts that one lies over another, then crossings."""
    ground = Ground(WALKERS, WEATHERS)
    for _ in range(facts):
        ground.tell(("over", "ann", "bob"))
    for _ in range(60 - facts):
        ground.cross("cid", "dot")
    return ground


class Numbers(TrackCase):
    def test_facts_and_crossings_are_numbered_together(self):
        ground = Ground(WALKERS, WEATHERS)
        self.assertEqual(ground.tell(("over", "ann", "bob")), 0)
        self.assertEqual(ground.cross("bob", "cid"), 1)
        self.assertEqual(ground.cross("bob", "cid"), 2)
        self.assertEqual(ground.tell(("amid", "ann", "rain")), 3)
        self.assertEqual(ground.tell(("over", "ann", "bob")), 4)
        self.assertEqual(ground.told(), (
            {0: ("over", "ann", "bob"), 3: ("amid", "ann", "rain"), 4: ("over", "ann", "bob")},
            {1: ("bob", "cid"), 2: ("bob", "cid")}))

    def test_crossings_are_told_as_handed_in(self):
        ground = Ground(["ann", "bob"], [])
        ground.cross("bob", "ann")
        ground.cross("ann", "bob")
        self.assertEqual(ground.told(), ({}, {0: ("bob", "ann"), 1: ("ann", "bob")}))

    def test_no_number_is_given_twice(self):
        ground = ground_of(["ann", "bob"], [], ("over", "ann", "bob"))
        self.assertEqual(ground.cross("ann", "bob"), 1)
        self.assertIsNone(ground.take(1))
        self.assertIsNone(ground.take(0))
        self.assertEqual(ground.told(), ({}, {}))
        self.assertEqual(ground.tell(("over", "bob", "ann")), 2)
        ground.take(2)
        self.assertEqual(ground.cross("bob", "ann"), 3)

    def test_told_is_by_rising_numbers(self):
        ground = Ground(["ann", "bob"], [])
        ground.cross("ann", "bob")
        ground.tell(("over", "ann", "bob"))
        ground.settle(0, "ann")
        self.assertEqual(list(ground.told()[0]), [0, 1])

    def test_nothing_told(self):
        self.assertEqual(Ground([], []).told(), ({}, {}))


class Room(TrackCase):
    def test_sixty_of_both_and_one_more(self):
        for facts in (0, 1, 30, 59, 60):
            ground = full_ground(facts)
            self.refused_alike(ground, Full, ground.tell, ("over", "ann", "bob"))
            self.refused_alike(ground, Full, ground.cross, "cid", "dot")
            self.assertEqual(sum(map(len, ground.told())), 60)

    def test_room_again_where_one_is_taken_out(self):
        ground = full_ground()
        ground.take(0)
        self.assertEqual(ground.cross("ann", "bob"), 60)
        self.refused_alike(ground, Full, ground.cross, "ann", "bob")
        ground.take(59)
        self.assertEqual(ground.tell(("over", "ann", "bob")), 61)
        self.refused_alike(ground, Full, ground.tell, ("over", "ann", "bob"))

    def test_a_full_ground_is_settled_still(self):
        ground = full_ground()
        self.assertEqual(ground.settle(30, "cid"), 30)
        self.assertEqual(ground.told()[0][30], ("over", "cid", "dot"))
        self.refused_alike(ground, Ring, ground.settle, 31, "dot")

    def test_no_fact_comes_ahead_of_full(self):
        ground = full_ground()
        self.refused_alike(ground, NoFact, ground.tell, ("over", "ann", "ann"))
        self.refused_alike(ground, NoFact, ground.cross, "ann", "ann")

    def test_full_comes_ahead_of_ring(self):
        ground = full_ground()
        self.refused_alike(ground, Full, ground.tell, ("over", "bob", "ann"))


class Facts(TrackCase):
    def test_what_is_no_fact(self):
        ground = ground_of(["ann", "bob"], ["rain", "snow"], ("over", "ann", "bob"))
        for fact in [(), ("over",), ("over", "ann"), ("over", "ann", "bob", "bob"), ("ann", "bob"), ("", "ann", "bob"),
                     ("under", "ann", "bob"), ("Over", "ann", "bob"), ("over", "ann", "ann"), ("over", "ann", "cid"),
                     ("over", "cid", "ann"), ("over", "ann", "rain"), ("over", "rain", "ann"), ("over", "", ""),
                     ("over", "rain", "snow"), ("ahead", "ann", "bob"), ("ahead", "rain", "ann"),
                     ("ahead", "ann", "wind"), ("ahead", "cid", "rain"), ("amid", "ann", "bob"),
                     ("amid", "rain", "rain"), ("behind", "ann", "ann"), ("behind", "snow", "rain"),
                     ("behind", "ann", ""), ("cross", "ann", "bob"), ("begin", "ann", "rain"), ("end", "ann", "rain")]:
            self.refused_alike(ground, NoFact, ground.tell, fact)
        self.assertEqual(ground.tell(("over", "ann", "bob")), 1)

    def test_what_is_a_fact(self):
        for fact in [("over", "ann", "bob"), ("over", "bob", "ann"), ("ahead", "ann", "rain"), ("amid", "bob", "snow"),
                     ("behind", "bob", "rain")]:
            self.assertEqual(ground_of(["ann", "bob"], ["rain", "snow"], fact).told(), ({0: fact}, {}))

    def test_what_is_no_crossing(self):
        ground = ground_of(["ann", "bob"], ["rain"])
        for one, other in [("ann", "ann"), ("ann", "cid"), ("cid", "ann"), ("cid", "dot"), ("ann", "rain"),
                           ("rain", "ann"), ("rain", "rain"), ("", "ann"), ("ann", "")]:
            self.refused_alike(ground, NoFact, ground.cross, one, other)
        self.assertEqual(ground.cross("ann", "bob"), 0)

    def test_a_crossing_that_is_not_open_is_put_in(self):
        ground = ground_of(["ann", "bob"], [], ("over", "ann", "bob"))
        self.assertEqual(ground.cross("bob", "ann"), 1)


class TakingOut(TrackCase):
    def test_take_undoes_tell(self):
        ground = ground_of(["ann", "bob"], [], ("over", "ann", "bob"), ("over", "ann", "bob"))
        ground.take(0)
        self.assertEqual(ground.told(), ({1: ("over", "ann", "bob")}, {}))
        self.assertEqual(ground.many(), 1)
        ground.take(1)
        self.assertEqual(ground.many(), 2)
        self.assertEqual(ground.tell(("over", "bob", "ann")), 2)

    def test_take_takes_a_crossing(self):
        ground = ground_of(["ann", "bob"], [])
        ground.cross("ann", "bob")
        ground.cross("bob", "ann")
        self.assertIsNone(ground.take(0))
        self.assertEqual(ground.told(), ({}, {1: ("bob", "ann")}))

    def test_take_of_what_is_not_there(self):
        ground = ground_of(["ann", "bob"], [], ("over", "ann", "bob"))
        ground.cross("ann", "bob")
        for number in (-1, 2, 60, 10 ** 9):
            self.refused_alike(ground, NoSuch, ground.take, number)
        ground.take(0)
        ground.take(1)
        for number in (0, 1):
            self.refused_alike(ground, NoSuch, ground.take, number)
        self.assertEqual(ground.cross("ann", "bob"), 2)


class Settling(TrackCase):
    def test_either_walker(self):
        for over, other in (("ann", "bob"), ("bob", "ann")):
            for pair in (("ann", "bob"), ("bob", "ann")):
                ground = Ground(["ann", "bob"], [])
                ground.cross("bob", "ann")
                ground.cross(*pair)
                self.assertEqual(ground.settle(1, over), 1)
                self.assertEqual(ground.told(), ({1: ("over", over, other)}, {0: ("bob", "ann")}))
                self.assertEqual(ground.pairs(), [(("walker", other), ("walker", over))])

    def test_the_next_number_is_as_it_was(self):
        ground = Ground(["ann", "bob"], [])
        ground.cross("ann", "bob")
        ground.settle(0, "bob")
        self.assertEqual(ground.cross("ann", "bob"), 1)
        ground.take(0)
        self.assertEqual(ground.told(), ({}, {1: ("ann", "bob")}))

    def test_what_is_no_crossings_number(self):
        ground = ground_of(["ann", "bob"], [], ("over", "ann", "bob"))
        ground.cross("ann", "bob")
        for number in (-1, 0, 2, 99):
            self.refused_alike(ground, NoSuch, ground.settle, number, "ann")
            self.refused_alike(ground, NoSuch, ground.settle, number, "cid")
        ground.settle(1, "ann")
        self.refused_alike(ground, NoSuch, ground.settle, 1, "ann")
        ground.cross("ann", "bob")
        ground.take(2)
        self.refused_alike(ground, NoSuch, ground.settle, 2, "ann")

    def test_another_walker(self):
        ground = Ground(["ann", "bob", "cid"], ["rain"])
        ground.cross("ann", "bob")
        for over in ("cid", "dot", "rain", "", "an"):
            self.refused_alike(ground, NoFact, ground.settle, 0, over)

    def test_no_fact_comes_ahead_of_ring(self):
        ground = ground_of(["ann", "bob", "cid"], [], ("over", "ann", "bob"))
        ground.cross("ann", "bob")
        self.refused_alike(ground, NoFact, ground.settle, 1, "cid")
        self.refused_alike(ground, Ring, ground.settle, 1, "bob")
        self.assertEqual(ground.settle(1, "ann"), 1)


if __name__ == "__main__":
    unittest.main()
