"""Short words for the tests."""

import unittest

from trackorder.ground import Ground

WALKERS = ["ann", "bob", "cid", "dot", "eve", "fay", "gus", "hal"]
WEATHERS = ["rain", "snow", "wind"]


def ground_of(walkers, weathers, *facts):
    """A ground with these facts told, numbered from 0."""
    ground = Ground(walkers, weathers)
    for fact in facts:
        ground.tell(fact)
    return ground


def letters(text):
    """A ground of walkers of one letter each, and the facts that the pairs tell: "ab" for a over b."""
    names = sorted(set(text) - {" "})
    return ground_of(names, [], *[("over", pair[0], pair[1]) for pair in text.split()])


def walker(name):
    return ("walker", name)


def state(ground):
    """All that can be seen of a ground."""
    return (ground.things(), ground.told(), ground.many(), ground.pairs(), ground.order(), ground.open_crossings(),
            ground.look(), ground.needless(), ground.kept(), ground.walkers(), ground.weathers(), ground.given())


class TrackCase(unittest.TestCase):
    def refused(self, error, deed, *given):
        """Check that the deed is refused by this very error, and tell the error."""
        with self.assertRaises(error) as caught:
            deed(*given)
        self.assertIs(caught.exception.__class__, error)
        return caught.exception

    def refused_alike(self, ground, error, deed, *given):
        """Check the refusal, and that the ground is as it was."""
        before = state(ground)
        caught = self.refused(error, deed, *given)
        self.assertEqual(state(ground), before)
        return caught
