"""Grounds as texts: a row for each name, fact and crossing."""

from trackorder.errors import BadText, NoFact, TrackError
from trackorder.facts import MOST_WALKERS, MOST_WEATHERS, is_name
from trackorder.ground import Ground

FIGURES = "0123456789"
MOST_FIGURES = 6


def written(ground):
    """The ground as a text."""
    rows = [f"ground {ground.given()}"]
    for name in ground.walkers():
        rows.append(f"walker {name}")
    for name in ground.weathers():
        rows.append(f"weather {name}")
    facts, crossings = ground.told()
    for number in sorted([*facts, *crossings]):
        rows.append(written_row(number, facts, crossings))
    return "\n".join(rows)


def written_row(number, facts, crossings):
    """The row of the fact or the crossing that has this number."""
    if number in facts:
        word, one, other = facts[number]
        return f"fact {number} {word} {one} {other}"
    one, other = crossings[number]
    return f"cross {number} {one} {other}"


def read(text):
    """The ground that a text tells of."""
    rows = [row.split(" ") for row in text.split("\n")]
    given = read_given(rows[0])
    walkers = read_names(rows, 1, "walker", [], MOST_WALKERS)
    weathers = read_names(rows, 1 + len(walkers), "weather", walkers, MOST_WEATHERS)
    ground = Ground(walkers, weathers)
    for at in range(1 + len(walkers) + len(weathers), len(rows)):
        read_told(ground, rows[at], at, given)
    ground.pass_to(given)
    return ground


def read_given(words):
    """How many numbers were given, from the words of the first row."""
    if len(words) != 2 or words[0] != "ground" or not is_number(words[1]):
        raise BadText(0)
    return int(words[1])


def read_names(rows, start, sort, ahead, most):
    """The names in the rows of one sort that begin at start; ahead are the names of another sort."""
    names = []
    for at in range(start, len(rows)):
        words = rows[at]
        if words[0] != sort:
            return names
        if len(words) != 2 or not is_name(words[1]) or words[1] in ahead + names or len(names) == most:
            raise BadText(at)
        names.append(words[1])
    return names


def read_told(ground, words, at, given):
    """Put the fact or the crossing of one row into the ground, under the number that the row gives it."""
    if len(words) < 2 or not is_number(words[1]):
        raise BadText(at)
    number = int(words[1])
    if number < ground.given() or number >= given:
        raise BadText(at)
    ground.pass_to(number)
    try:
        put_in(ground, words)
    except TrackError:
        raise BadText(at) from None


def put_in(ground, words):
    """Put in what the words of a row tell, as the ground's next number."""
    if words[0] == "fact":
        ground.tell(tuple(words[2:]))
    elif words[0] == "cross" and len(words) == 4:
        ground.cross(words[2], words[3])
    else:
        raise NoFact("no row of a fact or a crossing")


def is_number(word):
    """Whether the word is a number as the rows have it, without a needless nought."""
    if not 1 <= len(word) <= MOST_FIGURES or not all([sign in FIGURES for sign in word]):
        return False
    return word == "0" or word[0] != "0"
