"""Point 1: what is handed in is neither changed nor kept, and what is told belongs to whoever got it."""

import unittest

from tests.helpers import TrackCase, letters, state, walker
from trackorder.errors import Ring
from trackorder.ground import Ground
from trackorder.notes import read, written


def busy_ground():
    """A ground with something to tell of each kind."""
    ground = Ground(["dot", "cid", "bob", "ann"], ["snow", "rain"])
    ground.tell(("over", "ann", "bob"))
    ground.cross("cid", "dot")
    ground.tell(("amid", "ann", "rain"))
    ground.tell(("over", "ann", "bob"))
    ground.cross("dot", "cid")
    return ground


class HandedIn(TrackCase):
    def test_lists_are_not_changed(self):
        walkers, weathers = ["bob", "ann"], ["wind", "rain"]
        ground = Ground(walkers, weathers)
        ground.tell(("amid", "ann", "wind"))
        ground.many()
        self.assertEqual((walkers, weathers), (["bob", "ann"], ["wind", "rain"]))

    def test_lists_are_not_kept(self):
        walkers, weathers = ["bob", "ann"], ["wind", "rain"]
        ground = Ground(walkers, weathers)
        before = state(ground), written(ground)
        walkers[0] = "cid"
        walkers.append("dot")
        weathers.clear()
        self.assertEqual((state(ground), written(ground)), before)
        self.assertEqual(ground.tell(("amid", "bob", "wind")), 0)

    def test_one_list_for_two_grounds(self):
        walkers = ["ann", "bob"]
        first, second = Ground(walkers, []), Ground(walkers, [])
        first.tell(("over", "ann", "bob"))
        self.assertEqual((first.many(), second.many()), (1, 2))
        self.assertEqual(second.tell(("over", "bob", "ann")), 0)
        self.assertEqual((first.pairs(), second.pairs()),
                         ([(walker("bob"), walker("ann"))], [(walker("ann"), walker("bob"))]))
        self.assertEqual(first.cross("ann", "bob"), 1)
        self.assertEqual(second.told(), ({0: ("over", "bob", "ann")}, {}))


class Told(TrackCase):
    def spoil(self, told):
        """Change each list and dict in what was told."""
        if isinstance(told, (tuple, list)):
            for part in list(told):
                self.spoil(part)
        if isinstance(told, list):
            told.reverse()
            told.append("spoilt")
            del told[0]
        if isinstance(told, dict):
            told.pop(next(iter(told)), None)
            told[99] = ("over", "bob", "ann")

    def test_what_is_told_may_be_changed(self):
        ann, bob, cid = walker("ann"), walker("bob"), walker("cid")
        deeds = [lambda ground: ground.things(), lambda ground: ground.before(bob, ann),
                 lambda ground: ground.before(ann, bob), lambda ground: ground.before(ann, cid),
                 lambda ground: ground.before(("begin", "snow"), ("end", "rain")),
                 lambda ground: ground.order(), lambda ground: ground.pairs(),
                 lambda ground: ground.open_crossings(), lambda ground: ground.look(), lambda ground: ground.leans(2),
                 lambda ground: ground.needless(), lambda ground: ground.kept(), lambda ground: ground.told(),
                 lambda ground: ground.walkers(), lambda ground: ground.weathers()]
        for deed in deeds:
            ground = busy_ground()
            before = state(ground), written(ground)
            first = deed(ground)
            self.spoil(first)
            self.assertEqual((state(ground), written(ground)), before)
            self.assertEqual(deed(ground), deed(busy_ground()))
            self.assertEqual(ground.tell(("over", "ann", "bob")), 5)

    def test_the_order_of_one_may_be_changed(self):
        ground = letters("ab bc")
        self.spoil(ground.order())
        self.assertEqual(ground.order(), ("one", [walker("c"), walker("b"), walker("a")]))

    def test_the_row_of_a_ring_may_be_changed(self):
        ground = busy_ground()
        before = state(ground)
        row = self.refused(Ring, ground.tell, ("over", "bob", "ann")).row
        self.assertEqual(len(row), 1)
        row.append(7)
        self.assertEqual(state(ground), before)
        self.assertEqual(len(self.refused(Ring, ground.tell, ("over", "bob", "ann")).row), 1)

    def test_what_was_told_stays_as_it_was(self):
        ground = busy_ground()
        told, things, pairs = ground.told(), ground.things(), ground.pairs()
        before = repr((told, things, pairs))
        ground.settle(1, "dot")
        ground.take(0)
        self.assertEqual(repr((told, things, pairs)), before)

    def test_the_orders_of_an_open_answer_are_lists_of_their_own(self):
        ground = busy_ground()
        for found in (ground.order(), ground.before(walker("cid"), walker("dot"))):
            other = list(found[2])
            found[1].clear()
            self.assertEqual(found[2], other)


class Texts(TrackCase):
    def test_a_ground_that_was_read_is_apart(self):
        ground = busy_ground()
        before = state(ground)
        copy = read(written(ground))
        copy.take(0)
        copy.settle(1, "cid")
        self.assertEqual(state(ground), before)
        ground.take(4)
        self.assertEqual(copy.told()[1], {4: ("dot", "cid")})


if __name__ == "__main__":
    unittest.main()
