"""The second half of promise 4, and all that the document says of round."""

import random
import unittest

from cutreach.tools import order, reach, round_of
from helper import (GREATEST, REFUSED, CallCase, Reading, draw, drawn, part_text, row_of_cells, signs, snake,
                    tool_text)


class RoundCase(CallCase):
    def told(self, part, tools, rounds):
        """The rounds of all cuts, from the first on."""
        self.assertEqual(len(part.splitlines()) - 1, len(rounds))
        for k, number in enumerate(rounds):
            self.alike(round_of(k, signs(part), signs(tools)), [number], (k, part[:400], tools[:400]))


class Rounds(RoundCase):
    def test_first_round(self):
        self.told("part a 1 1 1 x\ncut 0 0 0 1 1 1\n", "", [1])
        self.told(part_text((5, 1, 1), [(x, 0, 0, 1, 1, 1) for x in range(5)]), "", [1, 1, 1, 1, 1])
        self.told(part_text((1, 1, 1), [(0, 0, 0, 1, 1, 1)] * 64), "", [1] * 64)

    def test_one_behind_the_other(self):
        self.told(*row_of_cells((0, 1, 2, 3, 4)), [5, 4, 3, 2, 1])
        self.told(*row_of_cells((4, 3, 2, 1, 0)), [1, 2, 3, 4, 5])
        self.told(*row_of_cells((2, 4, 0, 3, 1)), [3, 1, 5, 2, 4])

    def test_64_rounds(self):
        self.told(*snake(), list(range(64, 0, -1)))

    def test_one_round_by_another_way_is_the_fewest(self):
        part, tools = row_of_cells((0, 1, 2, 3, 4))
        self.told(part, tools.replace("tool 0 r", "tool 0 rl"), [1, 4, 3, 2, 1])
        self.told(part, tools.replace("tool 1 r", "tool 1 rl"), [5, 4, 3, 2, 1])
        self.told(part, tools.replace("tool 0 r", "tool 0 rl").replace("tool 1 r", "tool 1 rl"), [1, 2, 3, 2, 1])

    def test_freed_by_two_of_different_rounds(self):
        part = part_text((3, 1, 3), [(0, 0, 0, 3, 1, 1), (0, 0, 1, 3, 1, 1), (0, 0, 2, 3, 1, 1)])
        self.told(part, tool_text([(k, "u", 3) for k in range(3)]), [3, 2, 1])
        # The lowest cut lies under one of round 1 and one of round 2.
        part = part_text((2, 1, 3), [(0, 0, 0, 2, 1, 1), (0, 0, 1, 1, 1, 2), (1, 0, 1, 1, 1, 1), (1, 0, 2, 1, 1, 1)])
        self.told(part, tool_text([(k, "u", 3) for k in range(4)]), [3, 1, 2, 1])

    def test_freed_within_a_round_is_of_the_next(self):
        """Whether what frees it has the greater or the lesser number."""
        tools = "tool 0 u 2\ntool 1 u 2\ntool 2 u 2\n"
        under = (0, 0, 0, 1, 1, 1)
        above = (0, 0, 1, 1, 1, 1)
        beside = (1, 0, 1, 1, 1, 1)
        self.told(part_text((2, 1, 2), [above, under, beside]), tools, [1, 2, 1])
        self.told(part_text((2, 1, 2), [under, above, beside]), tools, [2, 1, 1])
        self.told(part_text((2, 1, 2), [beside, above, under]), tools, [1, 1, 2])


class Never(RoundCase):
    def test_alone(self):
        self.told(part_text((3, 3, 3), [(1, 1, 1, 1, 1, 1)]), "", [0])
        self.told(part_text((3, 3, 3), [(1, 1, 2, 1, 1, 1)]), "tool 0 rlbfd 16\n", [0])
        self.told(part_text((1, 1, 5), [(0, 0, 0, 1, 1, 5)]), "tool 0 ud 4\n", [0])
        self.told(part_text((2, 1, 1), [(0, 0, 0, 1, 1, 1), (1, 0, 0, 1, 1, 1)]), "tool 0 r 2\ntool 1 l 2\n", [0, 0])

    def test_beside_others_of_several_rounds(self):
        part, tools = row_of_cells((0, 1, 2, 3, 4))
        self.told(part, tools.replace("tool 1 r 16", "tool 1 r 3"), [0, 0, 3, 2, 1])
        self.told(part, tools.replace("tool 0 r 16", "tool 0 r 4"), [0, 4, 3, 2, 1])
        self.told(part, tools.replace("tool 4 r", "tool 4 l"), [0, 0, 0, 0, 0])
        self.told(part, tools.replace("tool 4 r", "tool 4 u"), [5, 4, 3, 2, 1])


class Refusals(RoundCase):
    def no_such_cut(self, k, part, tools):
        self.alike(round_of(k, signs(part), signs(tools)), [-4], (k, part))

    def test_no_such_cut(self):
        part, tools = row_of_cells((0, 1, 2))
        for k in (3, 4, 63, 64, GREATEST - 1, GREATEST):
            self.no_such_cut(k, part, tools)
        part = part_text((1, 1, 1), [(0, 0, 0, 1, 1, 1)] * 64)
        self.alike(round_of(63, signs(part), []), [1])
        self.no_such_cut(64, part, "")

    def test_part_without_cuts(self):
        for k in (0, 1, GREATEST):
            self.no_such_cut(k, "part a 1 1 1 x\n", "")

    def test_texts_come_first(self):
        for part, tools, answer in REFUSED:
            for k in (0, 99, GREATEST):
                self.alike(round_of(k, signs(part), signs(tools)), answer, (k, part[:200], tools[:200]))


class Drawn(RoundCase):
    def test_second_reading(self):
        seen = {}
        for part, tools in drawn(7, 350):
            reading = Reading(part, tools)
            rounds = [reading.round_of(k) for k in range(len(reading.boxes))]
            self.told(part, tools, rounds)
            seen.update(dict.fromkeys(rounds, True))
        for number in (0, 1, 2, 3, 4):
            self.assertIn(number, seen)

    def test_second_reading_of_large_parts(self):
        source = random.Random(71)
        for number in range(15):
            part, tools = draw(source, (10, 11, 12), 14)
            reading = Reading(part, tools)
            self.told(part, tools, [reading.round_of(k) for k in range(len(reading.boxes))])

    def test_none_just_if_not_in_the_order(self):
        for part, tools in drawn(72, 300):
            made = order(signs(part), signs(tools))[1:]
            for k in range(len(part.splitlines()) - 1):
                number = round_of(k, signs(part), signs(tools))[0]
                self.assertEqual(number == 0, k not in made, (k, part, tools))

    def test_fewest_rounds(self):
        """When all of rounds 1 to r are made, it can be reached just if its own is at most r + 1."""
        for part, tools in drawn(73, 200):
            rounds = [round_of(k, signs(part), signs(tools))[0] for k in range(len(part.splitlines()) - 1)]
            for k, number in enumerate(rounds):
                for stage in range(max(rounds) + 1):
                    made = [other for other, at in enumerate(rounds) if 0 < at <= stage and other != k]
                    ways = reach(k, signs(part), signs(tools), made)[0]
                    self.assertEqual(ways > 0, 0 < number <= stage + 1, (k, part, tools))


class NothingKept(RoundCase):
    def test_lists_stay_and_the_same_comes_again(self):
        for part, tools in drawn(74, 60):
            for k in (0, 2, GREATEST):
                self.nothing_kept(round_of, k, signs(part), signs(tools))
        for part, tools, answer in REFUSED:
            self.nothing_kept(round_of, 0, signs(part), signs(tools))

    def test_calls_do_not_meet(self):
        cases = [(k, signs(part), signs(tools)) for part, tools in drawn(75, 60) for k in (0, 1, 2)]
        answers = [round_of(*case) for case in cases]
        for case, answer in reversed(list(zip(cases, answers))):
            self.alike(round_of(*case), answer)


class GoodTime(RoundCase):
    def test_each_of_a_round_of_its_own(self):
        part, tools = snake()
        for k in (0, 63):
            self.alike(self.in_good_time(round_of, k, signs(part), signs(tools)), [64 - k])

    def test_large_cuts_and_all_ways(self):
        cuts = [(1, 1, min(1 + k // 4, 15), 14, 14, 1) for k in range(64)]
        part = signs(part_text((16, 16, 16), cuts))
        self.alike(self.in_good_time(round_of, 0, part, []), [15])


if __name__ == "__main__":
    unittest.main()
