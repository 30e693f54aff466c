"""All that the document says of ways."""

import random
import unittest

from cutreach.tools import order, reach, ways
from helper import (GREATEST, REFUSED, CallCase, Reading, draw, drawn, part_text, row_of_cells, signs, snake)

ALL_SIX = [6, 0, 1, 2, 3, 4, 5]


class WaysCase(CallCase):
    def told(self, k, part, tools, answer):
        self.alike(ways(k, signs(part), signs(tools)), answer, (k, part[:400], tools[:400]))


class AtItsTurn(WaysCase):
    def test_one_several_and_all(self):
        for cut, answer in (
            ((0, 0, 0, 3, 3, 3), ALL_SIX),
            ((2, 1, 1, 1, 1, 1), [1, 0]),
            ((0, 1, 1, 1, 1, 1), [1, 1]),
            ((1, 2, 1, 1, 1, 1), [1, 2]),
            ((1, 0, 1, 1, 1, 1), [1, 3]),
            ((1, 1, 2, 1, 1, 1), [1, 4]),
            ((1, 1, 0, 1, 1, 1), [1, 5]),
            ((1, 0, 1, 1, 3, 1), [2, 2, 3]),
            ((2, 2, 2, 1, 1, 1), [3, 0, 2, 4]),
            ((1, 0, 0, 2, 3, 3), [5, 0, 2, 3, 4, 5]),
        ):
            self.told(0, part_text((3, 3, 3), [cut]), "", answer)
        self.told(0, part_text((3, 3, 3), [(0, 0, 0, 3, 3, 3)]), "tool 0 lbu 3\n", [3, 1, 2, 4])

    def test_more_than_when_none_is_made(self):
        # Cut 0 frees cut 1 from the left, too; it can be reached from above from the beginning.
        part = part_text((3, 3, 3), [(0, 1, 2, 1, 1, 1), (1, 1, 2, 1, 1, 1)])
        self.alike(reach(1, signs(part), [], []), [1, 4])
        self.told(1, part, "", [2, 1, 4])
        self.told(0, part, "", [2, 1, 4])
        part, tools = row_of_cells((0, 1, 2, 3, 4))
        self.alike(reach(0, signs(part), signs(tools), []), [0])
        self.told(0, part, tools, [1, 0])

    def test_fewer_than_at_the_end_of_the_order(self):
        part = part_text((3, 3, 3), [(1, 1, 2, 1, 1, 1), (0, 1, 2, 1, 1, 1), (2, 1, 2, 1, 1, 1)])
        self.told(0, part, "", [1, 4])
        self.told(1, part, "", [2, 1, 4])
        self.told(2, part, "", [3, 0, 1, 4])
        self.alike(reach(0, signs(part), [], [0, 1, 2]), [3, 0, 1, 4])

    def test_not_by_rounds(self):
        # All are of one round, but each is taken behind those of lesser numbers.
        part = part_text((4, 1, 1), [(x, 0, 0, 1, 1, 1) for x in (0, 1, 2, 3)])
        tools = "tool 0 rl 16\ntool 1 rlu 16\ntool 2 rlu 16\ntool 3 rlu 16\n"
        for k, answer in enumerate(([1, 1], [2, 1, 4], [2, 1, 4], [3, 0, 1, 4])):
            self.told(k, part, tools, answer)

    def test_turn_behind_one_with_a_greater_number(self):
        part = part_text((1, 2, 2), [(0, 0, 0, 1, 1, 1), (0, 1, 0, 1, 1, 1), (0, 0, 1, 1, 1, 1)])
        # Cut 1 goes first, then 0 from the back over it; only then 2, from below over 0, too.
        tools = "tool 0 bu 16\ntool 1 b 16\ntool 2 fud 16\n"
        self.alike(order(signs(part), signs(tools)), [3, 1, 0, 2])
        self.told(0, part, tools, [1, 2])
        self.told(1, part, tools, [1, 2])
        self.told(2, part, tools, [3, 3, 4, 5])

    def test_all_cells_cut_away_at_its_turn(self):
        part = part_text((3, 3, 3), [(1, 1, 1, 1, 1, 1), (1, 1, 0, 1, 1, 3)])
        self.told(0, part, "", ALL_SIX)
        self.told(0, part, "tool 0 rlf 2\n", [3, 0, 1, 3])


class Refusals(WaysCase):
    # Cut 1 is never made.
    PART = part_text((3, 3, 3), [(0, 0, 0, 1, 1, 1), (1, 1, 1, 1, 1, 1)])

    def test_no_such_cut(self):
        for k in (2, 3, 63, 64, GREATEST - 1, GREATEST):
            self.told(k, self.PART, "", [-4])
            self.told(k, "part a 1 1 1 x\n", "", [-4])
        self.told(0, "part a 1 1 1 x\n", "", [-4])
        part = part_text((1, 1, 1), [(0, 0, 0, 1, 1, 1)] * 64)
        self.told(63, part, "", ALL_SIX)
        self.told(64, part, "", [-4])

    def test_never_made(self):
        self.told(0, self.PART, "", [3, 1, 3, 5])
        self.told(1, self.PART, "", [-3])
        self.told(0, self.PART, "tool 0 rbu 16\n", [-3])
        part = part_text((2, 1, 1), [(0, 0, 0, 1, 1, 1), (1, 0, 0, 1, 1, 1)])
        for k in (0, 1):
            self.told(k, part, "tool 0 r 2\ntool 1 l 2\n", [-3])
        # No such cut where none is ever made.
        self.told(2, part, "tool 0 r 2\ntool 1 l 2\n", [-4])

    def test_texts_come_first(self):
        for part, tools, answer in REFUSED:
            for k in (0, 1, 99, GREATEST):
                self.told(k, part, tools, answer)


class Drawn(WaysCase):
    def all_cuts(self, part, tools, seen):
        reading = Reading(part, tools)
        for k in range(len(reading.boxes)):
            found = reading.ways(k)
            self.told(k, part, tools, [-3] if found is None else [len(found)] + found)
            seen[-3 if found is None else len(found)] = True

    def test_second_reading(self):
        seen = {}
        for part, tools in drawn(9, 300):
            self.all_cuts(part, tools, seen)
        self.assertEqual(sorted(seen), [-3, 1, 2, 3, 4, 5, 6])

    def test_second_reading_of_large_parts(self):
        source = random.Random(91)
        for number in range(10):
            part, tools = draw(source, (10, 12, 9), 10)
            self.all_cuts(part, tools, {})

    def test_reach_with_the_cuts_before_it(self):
        more = 0
        fewer = 0
        for part, tools in drawn(92, 300):
            made = order(signs(part), signs(tools))[1:]
            for at, k in enumerate(made):
                found = ways(k, signs(part), signs(tools))
                self.alike(found, reach(k, signs(part), signs(tools), made[:at]))
                more += found != reach(k, signs(part), signs(tools), [])
                fewer += found != reach(k, signs(part), signs(tools), made)
        self.assertGreater(more, 100)
        self.assertGreater(fewer, 100)


class NothingKept(WaysCase):
    def test_lists_stay_and_the_same_comes_again(self):
        for part, tools in drawn(93, 60):
            for k in (0, 2, GREATEST):
                self.nothing_kept(ways, k, signs(part), signs(tools))
        for part, tools, answer in REFUSED:
            self.nothing_kept(ways, 0, signs(part), signs(tools))


class GoodTime(WaysCase):
    def test_each_waits_for_one_with_a_greater_number(self):
        part, tools = snake()
        for k, answer in ((63, [1, 0]), (47, [1, 3]), (46, [1, 1]), (0, [1, 1])):
            self.alike(self.in_good_time(ways, k, signs(part), signs(tools)), answer)

    def test_large_cuts_and_all_ways(self):
        cuts = [(1, 1, min(1 + k // 4, 15), 14, 14, 1) for k in range(64)]
        part = signs(part_text((16, 16, 16), cuts))
        self.alike(self.in_good_time(ways, 0, part, []), [1, 4])
        self.alike(self.in_good_time(ways, 1, part, []), ALL_SIX)


if __name__ == "__main__":
    unittest.main()
