"""Names, things and facts: what each of them is, and the links that follow from them.

A link is a tuple (earlier, later, number) of two things and the number of
the fact that it comes from, None for a link of the weathers.
"""

LETTERS = "abcdefghijklmnopqrstuvwxyz"
LONGEST_NAME = 8
MOST_WALKERS = 8
MOST_WEATHERS = 3
WEATHER_WORDS = ("ahead", "amid", "behind")


def is_name(text):
    """Whether the text can be the name of a walker or a weather."""
    return 1 <= len(text) <= LONGEST_NAME and all([sign in LETTERS for sign in text])


def moments_of(weathers):
    """Begin and end of each weather, in the order in which they were."""
    moments = []
    for name in weathers:
        moments.append(("begin", name))
        moments.append(("end", name))
    return moments


def things_of(walkers, weathers):
    """All things of a ground, in their order."""
    return [("walker", name) for name in sorted(walkers)] + moments_of(weathers)


def weather_links(weathers):
    """The links of each moment with the next one."""
    moments = moments_of(weathers)
    return [(earlier, later, None) for earlier, later in zip(moments, moments[1:])]


def is_fact(fact, walkers, weathers):
    """Whether the tuple is a fact of these walkers and weathers."""
    if len(fact) != 3:
        return False
    word, one, other = fact
    if one not in walkers:
        return False
    if word == "over":
        return other in walkers and other != one
    return word in WEATHER_WORDS and other in weathers


def fact_links(fact, number):
    """The one or two links of a fact that has this number."""
    word, one, other = fact
    walker = ("walker", one)
    if word == "over":
        return [(("walker", other), walker, number)]
    into = (("begin", other), walker, number)
    if word == "ahead":
        return [(walker, ("begin", other), number)]
    if word == "amid":
        return [into, (walker, ("end", other), number)]
    return [(("end", other), walker, number)]
