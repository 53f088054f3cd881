"""Point 16: grounds as texts."""

import random
import unittest

from tests import brute
from tests.helpers import WALKERS, WEATHERS, TrackCase, ground_of, state
from trackorder.errors import BadText, Full, NoFact, NoSuch, Ring, TrackError
from trackorder.ground import Ground
from trackorder.notes import read, written

GOOD = ["ground 12", "walker cid", "walker ann", "walker bob", "weather snow", "weather rain", "fact 0 over ann bob",
        "cross 3 bob ann", "fact 4 amid ann rain", "fact 10 ahead bob snow", "cross 11 ann cid"]


def good_ground():
    """The ground that GOOD tells of, made by deeds."""
    ground = Ground(["cid", "ann", "bob"], ["snow", "rain"])
    ground.tell(("over", "ann", "bob"))
    ground.cross("ann", "bob")
    ground.tell(("over", "ann", "cid"))
    ground.cross("bob", "ann")
    ground.tell(("amid", "ann", "rain"))
    for _ in range(5):
        ground.cross("ann", "bob")
    ground.tell(("ahead", "bob", "snow"))
    ground.cross("ann", "cid")
    for number in (1, 2, 5, 6, 7, 8, 9):
        ground.take(number)
    return ground


class Written(TrackCase):
    def test_nothing(self):
        self.assertEqual(written(Ground([], [])), "ground 0")

    def test_names_as_they_were_handed_in(self):
        self.assertEqual(written(Ground(["cid", "ann", "bob"], ["wind", "rain"])),
                         "ground 0\nwalker cid\nwalker ann\nwalker bob\nweather wind\nweather rain")
        self.assertEqual(written(Ground([], ["rain"])), "ground 0\nweather rain")
        self.assertEqual(written(Ground(["ann"], [])), "ground 0\nwalker ann")

    def test_row_by_row(self):
        self.assertEqual(written(good_ground()).split("\n"), GOOD)

    def test_each_word(self):
        ground = ground_of(["ann", "bob"], ["rain"], ("ahead", "ann", "rain"), ("behind", "bob", "rain"),
                           ("over", "bob", "ann"))
        self.assertEqual(written(ground).split("\n")[4:],
                         ["fact 0 ahead ann rain", "fact 1 behind bob rain", "fact 2 over bob ann"])

    def test_all_taken_out(self):
        ground = ground_of(["ann", "bob"], [], ("over", "ann", "bob"))
        ground.take(0)
        self.assertEqual(written(ground), "ground 1\nwalker ann\nwalker bob")

    def test_a_settled_crossing(self):
        ground = Ground(["ann", "bob"], [])
        ground.cross("ann", "bob")
        ground.tell(("over", "bob", "ann"))
        ground.settle(0, "bob")
        self.assertEqual(written(ground),
                         "ground 2\nwalker ann\nwalker bob\nfact 0 over bob ann\nfact 1 over bob ann")

    def test_writing_changes_nothing(self):
        ground = good_ground()
        before = state(ground)
        self.assertEqual(written(ground), written(ground))
        self.assertEqual(state(ground), before)


class ReadBack(TrackCase):
    def test_what_is_written_is_read(self):
        ground = read("\n".join(GOOD))
        self.assertIs(ground.__class__, Ground)
        self.assertEqual(state(ground), state(good_ground()))
        self.assertEqual(written(ground).split("\n"), GOOD)
        self.assertEqual(ground.tell(("over", "ann", "bob")), 12)

    def test_small_ones(self):
        for text in ["ground 0", "ground 0\nwalker a", "ground 0\nweather a", "ground 1\nwalker a\nwalker b",
                     "ground 1\nwalker abcdefgh\nweather z\nfact 0 amid abcdefgh z"]:
            self.assertEqual(written(read(text)), text)

    def test_numbers_of_six_figures(self):
        text = "ground 999999\nwalker ann\nwalker bob\nfact 99998 over ann bob\ncross 999998 ann bob"
        ground = read(text)
        self.assertEqual(written(ground), text)
        self.assertEqual(ground.told(), ({99998: ("over", "ann", "bob")}, {999998: ("ann", "bob")}))
        self.assertEqual(ground.cross("ann", "bob"), 999999)
        self.assertEqual(ground.cross("ann", "bob"), 1000000)

    def test_full_grounds(self):
        rows = ["ground 60", *[f"walker {name}" for name in WALKERS], *[f"weather {name}" for name in WEATHERS]]
        rows += [f"cross {number} ann bob" for number in range(60)]
        ground = read("\n".join(rows))
        self.assertEqual(written(ground).split("\n"), rows)
        self.refused(Full, ground.cross, "ann", "bob")
        ground.take(0)
        self.assertEqual(ground.cross("ann", "bob"), 60)

    def deed(self, chance, grounds, walkers, weathers):
        """Do one thing by chance to each ground, and tell how it went."""
        number = chance.randint(0, 14)
        one, other = chance.choice(walkers), chance.choice(walkers)
        fact = chance.choice(brute.all_facts(walkers, weathers))
        word = chance.choice(["tell", "tell", "cross", "take", "settle"])
        given = {"tell": (fact,), "cross": (one, other), "take": (number,), "settle": (number, one)}[word]
        ends = []
        for ground in grounds:
            try:
                ends.append(getattr(ground, word)(*given))
            except TrackError as refusal:
                ends.append((refusal.__class__, getattr(refusal, "row", None)))
        self.assertEqual(ends[0], ends[1])
        return ends[0]

    def test_both_go_on_alike(self):
        kinds = set()
        for seed in range(40):
            chance = random.Random(seed)
            walkers, weathers = WALKERS[:3], WEATHERS[:2]
            chance.shuffle(walkers)
            chance.shuffle(weathers)
            first = Ground(walkers, weathers)
            for _ in range(12):
                self.deed(chance, [first, read(written(first))], walkers, weathers)
            second = read(written(first))
            for _ in range(12):
                end = self.deed(chance, [first, second], walkers, weathers)
                kinds.add(end[0] if isinstance(end, tuple) else end.__class__)
                self.assertEqual(state(first), state(second))
                self.assertEqual(written(first), written(second))
        self.assertEqual(kinds, {int, None.__class__, NoFact, NoSuch, Ring})


class Refused(TrackCase):
    def bad(self, row, *rows):
        """Check that the rows are refused by this row's number, also where whatever follows is of no use."""
        self.assertEqual(self.refused(BadText, read, "\n".join(rows)).row, row)
        self.assertEqual(self.refused(BadText, read, "\n".join([*rows, "", "ground x"])).row, row)

    def swapped(self, at, *rows):
        """GOOD with other rows in the place of one."""
        return [*GOOD[:at], *rows, *GOOD[at + 1:]]

    def test_an_empty_text(self):
        self.bad(0, "")

    def test_the_first_row(self):
        for row in ["ground", "ground ", " ground 12", "ground 12 ", "ground  12", "ground 12 12", "Ground 12", "12",
                    "ground x", "ground -1", "ground +1", "ground 1.0", "ground 012", "ground 00", "ground 1000000",
                    "ground 1_2", "ground 0x1", "ground \u0661", "ground \u00b2", "ground 12\r", "ground\t12",
                    "grounds 12", "walker ann", "weather rain", "cross 0 ann bob", " ", "\t", "ground 12\x0b",
                    "ground 12\u2028"]:
            self.bad(0, *self.swapped(0, row))
            self.bad(0, row)

    def test_line_ends(self):
        for rows in range(1, len(GOOD) + 1):
            text = "\n".join(GOOD[:rows])
            read(text)
            self.assertEqual(self.refused(BadText, read, text + "\n").row, rows)
            self.assertEqual(self.refused(BadText, read, text + "\n\n").row, rows)
        self.assertEqual(self.refused(BadText, read, "\n" + "\n".join(GOOD)).row, 0)
        self.assertEqual(self.refused(BadText, read, "\r\n".join(GOOD)).row, 0)
        self.assertEqual(self.refused(BadText, read, "\r".join(GOOD)).row, 0)
        self.assertEqual(self.refused(BadText, read, "ground 0\nwalker ann\r\nwalker bob").row, 1)

    def test_blank_and_unknown_rows(self):
        for at in range(1, len(GOOD) + 1):
            for row in ["", " ", "#", "stone ann", "walkers ann", "Walker ann", "facts 0 over ann bob",
                        "crossing 0 ann bob", "fact", "cross", "walker", "weather", GOOD[0], "ground 0"]:
                self.bad(at, *GOOD[:at], row, *GOOD[at:])

    def test_blanks_in_rows(self):
        for at, row in enumerate(GOOD):
            for other in [row + " ", " " + row, row.replace(" ", "  ", 1), row.replace(" ", "\t"), row + " x",
                          row.rpartition(" ")[0], row.replace(" ", ""), row + "\r", row + "\x0c"]:
                self.bad(at, *self.swapped(at, other))

    def test_order_of_the_sorts_of_rows(self):
        self.bad(5, *self.swapped(4, "weather snow", "walker dot"))
        self.bad(7, *self.swapped(6, GOOD[6], "walker dot"))
        self.bad(7, *self.swapped(6, GOOD[6], "weather wind"))
        self.bad(8, *self.swapped(7, GOOD[7], "walker dot"))
        self.bad(11, *GOOD, "weather wind")
        self.bad(1, "ground 1", "fact 0 over ann bob", "walker ann", "walker bob")
        self.bad(2, "ground 1", "walker ann", "cross 0 ann bob", "walker bob")
        self.bad(2, "ground 1", "weather rain", "walker ann")
        self.bad(2, "ground 1", "walker ann", "fact 0 amid ann rain", "weather rain")

    def test_names(self):
        for name in ["", "abcdefghi", "Ann", "a1", "a-b", "\u00e9", "\u0430nn", "1", "_"]:
            self.bad(1, *self.swapped(1, f"walker {name}"))
            self.bad(3, *self.swapped(3, f"walker {name}"))
            self.bad(4, *self.swapped(4, f"weather {name}"))
            self.bad(5, *self.swapped(5, f"weather {name}"))

    def test_names_that_stand_twice(self):
        self.bad(3, *self.swapped(3, "walker cid"))
        self.bad(4, *self.swapped(4, "weather bob"))
        self.bad(5, *self.swapped(5, "weather snow"))

    def test_too_many_names(self):
        walkers = [f"walker {name}" for name in WALKERS]
        weathers = [f"weather {name}" for name in WEATHERS]
        read("\n".join(["ground 0", *walkers, *weathers]))
        self.bad(9, "ground 0", *walkers, "walker ida", *weathers)
        self.bad(9, "ground 0", *walkers, "walker ann", *weathers)
        self.bad(12, "ground 0", *walkers, *weathers, "weather fog")
        self.bad(4, "ground 0", *weathers, "weather fog")

    def test_numbers_do_not_rise(self):
        self.bad(7, *self.swapped(7, "cross 0 bob ann"))
        self.bad(8, *self.swapped(8, "fact 3 amid ann rain"))
        self.bad(8, *self.swapped(8, "fact 2 amid ann rain"))
        self.bad(8, *self.swapped(7, "cross 5 bob ann"))
        self.bad(10, *self.swapped(9, "fact 11 ahead bob snow"))

    def test_numbers_not_below_all_that_were_given(self):
        self.bad(10, *self.swapped(10, "cross 12 ann cid"))
        self.bad(10, *self.swapped(10, "cross 999999 ann cid"))
        self.bad(9, *self.swapped(9, "fact 12 ahead bob snow"))
        self.bad(10, *self.swapped(0, "ground 11"))
        self.bad(6, *self.swapped(0, "ground 0"))

    def test_how_numbers_are_written(self):
        for word in ["00", "01", "010", "-0", "+0", "0.0", "", "x", "\u0660", "\u00b2", "1e0", "0x0", "1_0", "1000000",
                     "0000000", "000010"]:
            self.bad(6, *self.swapped(6, f"fact {word} over ann bob"))
            self.bad(7, *self.swapped(7, f"cross {word} bob ann"))
        self.bad(6, *self.swapped(0, "ground 999999")[:6], "fact 1000000 over ann bob")

    def test_facts(self):
        for words in ["over ann ann", "over ann dot", "over dot ann", "over ann rain", "under ann bob", "ahead ann bob",
                      "ahead rain ann", "amid ann wind", "behind dot rain", "behind rain rain", "Over ann bob",
                      "over ann", "over", "over ann bob cid", "ann bob", "cross ann bob"]:
            self.bad(6, *self.swapped(6, f"fact 0 {words}"))

    def test_crossings(self):
        for words in ["ann ann", "ann dot", "dot ann", "ann rain", "rain snow", "ann", "ann bob cid", "over ann bob"]:
            self.bad(7, *self.swapped(7, f"cross 3 {words}"))

    def test_rings(self):
        self.bad(7, *self.swapped(7, "fact 3 over bob ann"))
        self.bad(9, *self.swapped(9, "fact 10 behind bob rain"))
        self.bad(11, *self.swapped(0, "ground 13"), "fact 12 ahead ann rain")
        self.bad(4, "ground 2", "walker ann", "weather rain", "fact 0 behind ann rain", "fact 1 ahead ann rain")
        self.bad(6, "ground 5", "walker a", "walker b", "walker c", "fact 1 over a b", "fact 2 over b c",
                 "fact 4 over c a")

    def test_crossings_make_no_ring(self):
        read("\n".join(self.swapped(7, "cross 3 bob ann")))
        read("\n".join(self.swapped(10, "cross 11 bob ann")))

    def test_more_than_sixty(self):
        names = ["ground 100", "walker ann", "walker bob"]
        for row in ("fact {} over ann bob", "cross {} ann bob"):
            rows = [row.format(number) for number in range(62)]
            read("\n".join(names + rows[:60]))
            self.bad(63, *names, *rows[:61])
            self.bad(63, *names, *rows[:62])
            self.bad(63, *names, *rows[:60], "cross 70 ann bob")
            self.bad(63, *names, *rows[:60], "fact 70 over ann bob")


if __name__ == "__main__":
    unittest.main()
