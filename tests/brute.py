"""What a ground must tell, worked out by trying everything: slow, and unlike the program's own ways."""

import itertools
import random


def things_of(walkers, weathers):
    things = [("walker", name) for name in sorted(walkers)]
    for name in weathers:
        things += [("begin", name), ("end", name)]
    return things


def links_of(fact):
    word, one, other = fact
    return {
        "over": [(("walker", other), ("walker", one))],
        "ahead": [(("walker", one), ("begin", other))],
        "amid": [(("begin", other), ("walker", one)), (("walker", one), ("end", other))],
        "behind": [(("end", other), ("walker", one))],
    }[word]


def all_links(weathers, facts):
    moments = things_of([], weathers)
    links = [(moments[at], moments[at + 1], None) for at in range(len(moments) - 1)]
    for number, fact in facts.items():
        links += [(earlier, later, number) for earlier, later in links_of(fact)]
    return links


def ways(links, start, goal):
    """All ways from start to goal that come to no thing twice, for few links."""
    found = []
    stack = [(start, [])]
    while stack:
        at, way = stack.pop()
        if at == goal:
            found.append(way)
            continue
        been = {start} | {link[1] for link in way}
        for link in links:
            if link[0] == at and link[1] not in been:
                stack.append((link[1], way + [link]))
    return found


def distances(things, links):
    """How many links the shortest way from one thing to another has, for those between which there is one."""
    far = {(one, other): 99 for one in things for other in things}
    for earlier, later, _ in links:
        far[earlier, later] = 1
    for middle, one, other in itertools.product(things, repeat=3):
        far[one, other] = min(far[one, other], far[one, middle] + far[middle, other])
    return {pair: steps for pair, steps in far.items() if steps < 99}


def follows(things, links):
    far = distances(things, links)
    return [(one, other) for one in things for other in things if (one, other) in far]


def keeps_to(order, links):
    at = {thing: place for place, thing in enumerate(order)}
    return all(at[link[0]] < at[link[1]] for link in links)


def orders(things, links):
    return [list(order) for order in itertools.permutations(things) if keeps_to(order, links)]


def all_facts(walkers, weathers):
    facts = [("over", one, other) for one in walkers for other in walkers if one != other]
    return facts + [(word, one, other) for word in ("ahead", "amid", "behind")
                    for one in walkers for other in weathers]


def is_sound(things, links):
    return not any(one == other for one, other in follows(things, links))


def some_facts(seed, walkers, weathers, most):
    """Facts that can stand together, some of them twice, by their numbers."""
    chance = random.Random(seed)
    facts = {}
    for fact in chance.choices(all_facts(walkers, weathers), k=chance.randint(0, most)):
        tried = {**facts, len(facts): fact}
        if is_sound(things_of(walkers, weathers), all_links(weathers, tried)):
            facts = tried
    return facts


def grounds(many, walkers, weathers, most=8):
    """Some (things, links, facts, walkers, weathers), by chance, but the same in each run."""
    for seed in range(many):
        own_walkers = walkers[:1 + seed % len(walkers)]
        own_weathers = weathers[:seed // 3 % (len(weathers) + 1)]
        facts = some_facts(seed, own_walkers, own_weathers, most) if all_facts(own_walkers, own_weathers) else {}
        things = things_of(own_walkers, own_weathers)
        yield things, all_links(own_weathers, facts), facts, own_walkers, own_weathers
