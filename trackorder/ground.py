"""A ground: its walkers and weathers, the facts and crossings read from it, and what follows from them."""

from trackorder.errors import Full, NoFact, NoSuch, Ring
from trackorder.facts import MOST_WALKERS, MOST_WEATHERS, fact_links, is_fact, is_name, things_of, weather_links
from trackorder.orders import all_pairs, count_orders, loose_neighbours, shortest_way, some_order

MOST_HELD = 60


def check_names(walkers, weathers):
    """Refuse what can't be the walkers and weathers of one ground."""
    if len(walkers) > MOST_WALKERS or len(weathers) > MOST_WEATHERS:
        raise Full("too many walkers or weathers")
    names = walkers + weathers
    for at, name in enumerate(names):
        if not is_name(name) or name in names[:at]:
            raise NoFact("no name, or one that stands twice")


class Ground:
    """A ground of some walkers and weathers, with nothing told of it at first."""

    def __init__(self, walkers, weathers):
        check_names(walkers, weathers)
        self._walkers = list(walkers)
        self._weathers = list(weathers)
        self._things = things_of(walkers, weathers)
        self._facts = {}
        self._crossings = {}
        self._given = 0

    def walkers(self):
        """The names of the walkers, as they were handed in."""
        return list(self._walkers)

    def weathers(self):
        """The names of the weathers, as they were handed in."""
        return list(self._weathers)

    def given(self):
        """How many numbers were given, which is the next number too."""
        return self._given

    def pass_to(self, number):
        """Let all numbers below this one count as given, so that a ground that is read goes on as it did."""
        self._given = max(self._given, number)

    def things(self):
        """All things, in their order."""
        return list(self._things)

    def tell(self, fact):
        """Put a fact in, and return its number."""
        if not is_fact(fact, self._walkers, self._weathers):
            raise NoFact("no fact of this ground")
        self._refuse_when_full()
        self._refuse_ring(fact)
        number = self._give()
        self._facts[number] = fact
        return number

    def cross(self, one, other):
        """Put a crossing of two walkers in, and return its number."""
        if one == other or one not in self._walkers or other not in self._walkers:
            raise NoFact("no two unlike walkers of this ground")
        self._refuse_when_full()
        number = self._give()
        self._crossings[number] = (one, other)
        return number

    def take(self, number):
        """Take a fact or a crossing out."""
        if number in self._facts:
            del self._facts[number]
        elif number in self._crossings:
            del self._crossings[number]
        else:
            raise NoSuch("no number of a fact or a crossing")

    def settle(self, number, over):
        """Make of a crossing the fact that this walker lies over the other one, and return its number."""
        if number not in self._crossings:
            raise NoSuch("no number of a crossing")
        one, other = self._crossings[number]
        if over != one and over != other:
            raise NoFact("no walker of this crossing")
        fact = ("over", one, other) if over == one else ("over", other, one)
        self._refuse_ring(fact)
        del self._crossings[number]
        self._facts[number] = fact
        return number

    def before(self, one, other):
        """Whether one thing came ahead of another: yes or no with a shortest way, or open with two orders."""
        if one == other or one not in self._things or other not in self._things:
            raise NoSuch("no two unlike things of this ground")
        links = self._links()
        way = shortest_way(links, one, other)
        if way is not None:
            return ("yes", way)
        way = shortest_way(links, other, one)
        if way is not None:
            return ("no", way)
        ahead = some_order(self._things, links + [(one, other, None)])
        behind = some_order(self._things, links + [(other, one, None)])
        return ("open", ahead, behind)

    def order(self):
        """The one order that there is, or two that differ in two neighbours alone."""
        links = self._links()
        one = some_order(self._things, links)
        at = loose_neighbours(one, links)
        if at is None:
            return ("one", one)
        other = list(one)
        other[at] = one[at + 1]
        other[at + 1] = one[at]
        return ("parted", one, other)

    def many(self):
        """How many orders there are."""
        return count_orders(self._things, self._links())

    def pairs(self):
        """All pairs (earlier, later) of things of which it follows."""
        return all_pairs(self._things, self._links())

    def open_crossings(self):
        """The crossings of two walkers of whom it doesn't follow who came first."""
        pairs = self.pairs()
        found = []
        for number in sorted(self._crossings):
            one, other = self._crossings[number]
            here = (("walker", one), ("walker", other))
            if here not in pairs and (here[1], here[0]) not in pairs:
                found.append((number, one, other))
        return found

    def look(self):
        """The open crossing that, once seen, leaves the fewest orders at worst, with how many either way."""
        links = self._links()
        total = count_orders(self._things, links)
        best = None
        for number, one, other in self.open_crossings():
            over = fact_links(("over", one, other), number)
            # In each order one of the two is ahead, so the rest of all orders go the other way.
            orders = count_orders(self._things, links + over)
            found = (number, orders, total - orders)
            if best is None or max(found[1], found[2]) < max(best[1], best[2]):
                best = found
        return best

    def leans(self, number):
        """The pairs that would not follow any more without this fact."""
        if number not in self._facts:
            raise NoSuch("no number of a fact")
        left = self._pairs_without([number])
        return [pair for pair in self.pairs() if pair not in left]

    def needless(self):
        """The numbers of the facts without each of which, by itself, all pairs follow still."""
        pairs = self.pairs()
        return [number for number in sorted(self._facts) if self._pairs_without([number]) == pairs]

    def kept(self):
        """Numbers of facts from which all pairs follow, and none of which could be left out."""
        pairs = self.pairs()
        left_out = []
        for number in sorted(self._facts):
            if self._pairs_without(left_out + [number]) == pairs:
                left_out.append(number)
        return [number for number in sorted(self._facts) if number not in left_out]

    def told(self):
        """The facts and the crossings, each a dict by their numbers."""
        facts = {number: self._facts[number] for number in sorted(self._facts)}
        crossings = {number: self._crossings[number] for number in sorted(self._crossings)}
        return (facts, crossings)

    def _give(self):
        number = self._given
        self._given = number + 1
        return number

    def _refuse_when_full(self):
        if len(self._facts) + len(self._crossings) >= MOST_HELD:
            raise Full("no room for one more fact or crossing")

    def _refuse_ring(self, fact):
        links = self._links()
        ways = [shortest_way(links, later, earlier) for earlier, later, _ in fact_links(fact, None)]
        rings = [way for way in ways if way is not None]
        if rings:
            # Of several as short, min takes the first one.
            way = min(rings, key=len)
            raise Ring([link[2] for link in way if link[2] is not None])

    def _links(self, left_out=()):
        links = weather_links(self._weathers)
        for number in sorted(self._facts):
            if number not in left_out:
                links.extend(fact_links(self._facts[number], number))
        return links

    def _pairs_without(self, left_out):
        return all_pairs(self._things, self._links(left_out))
