"""Promise 2, the first half of promise 4, and all that the document says of order."""

import random
import unittest

from cutreach.tools import order, reach
from helper import REFUSED, CallCase, Reading, draw, drawn, part_text, signs, snake, tool_text

# Cells one behind the other to the right, and the tool that comes over them from there.
ROW = (5, 1, 1)


def cell(x):
    return (x, 0, 0, 1, 1, 1)


class OrderCase(CallCase):
    def told(self, part, tools, cuts):
        self.alike(order(signs(part), signs(tools)), [len(cuts)] + cuts, (part[:400], tools[:400]))


class InOrder(OrderCase):
    def test_part_without_cuts(self):
        self.told("part a 1 1 1 x\n", "", [])
        self.told("part a 16 16 16 x\n", "", [])

    def test_one_cut(self):
        self.told(part_text((3, 3, 3), [(1, 1, 2, 1, 1, 1)]), "", [0])
        self.told(part_text((3, 3, 3), [(1, 1, 1, 1, 1, 1)]), "", [])

    def test_all_at_once(self):
        self.told(part_text(ROW, [cell(x) for x in range(5)]), "", [0, 1, 2, 3, 4])
        self.told(part_text(ROW, [cell(0)] * 64), "", list(range(64)))

    def test_later_cut_first(self):
        tools = tool_text([(k, "r", 16) for k in range(5)])
        self.told(part_text(ROW, [cell(x) for x in (0, 1, 2, 3, 4)]), tools, [4, 3, 2, 1, 0])
        self.told(part_text(ROW, [cell(x) for x in (4, 3, 2, 1, 0)]), tools, [0, 1, 2, 3, 4])
        self.told(part_text(ROW, [cell(x) for x in (2, 4, 0, 3, 1)]), tools, [1, 3, 0, 4, 2])

    def test_from_the_start_again(self):
        part = part_text((3, 1, 2), [(0, 0, 0, 1, 1, 1), (1, 0, 0, 1, 1, 1), (0, 0, 1, 1, 1, 1), (2, 0, 0, 1, 1, 1),
                                     (1, 0, 1, 1, 1, 1), (2, 0, 1, 1, 1, 1)])
        tools = tool_text([(k, "u", 2) for k in range(6)])
        self.told(part, tools, [2, 0, 4, 1, 5, 3])

    def test_earlier_cut_just_freed_goes_ahead_of_those_ready_before(self):
        part = part_text(ROW, [cell(3), cell(0), cell(4), cell(1)])
        tools = tool_text([(0, "r", 16), (1, "l", 16), (2, "r", 16), (3, "l", 16)])
        self.told(part, tools, [1, 2, 0, 3])


class Never(OrderCase):
    def test_by_the_tools_ways(self):
        cuts = [(1, 1, 2, 1, 1, 1), (2, 1, 1, 1, 1, 1)]
        self.told(part_text((3, 3, 3), cuts), "tool 0 rlbfd 16\n", [1])
        self.told(part_text((3, 3, 3), cuts), "tool 0 u 16\ntool 1 lbfud 16\n", [0])

    def test_by_its_depth(self):
        cuts = [(0, 0, 0, 1, 1, 5), cell(2)]
        for depth, made in ((4, [1]), (5, [0, 1])):
            self.told(part_text((3, 1, 5), cuts), f"tool 0 ud {depth}\n", made)

    def test_by_wood_that_nothing_takes_away(self):
        self.told(part_text((5, 3, 3), [(1, 1, 1, 1, 1, 1), (2, 1, 1, 1, 1, 1), (3, 1, 1, 1, 1, 1)]), "", [])
        self.told(part_text((5, 3, 3), [(1, 1, 1, 1, 1, 1), (2, 1, 1, 1, 1, 1), (4, 1, 1, 1, 1, 1)]), "", [2])
        self.told(part_text((5, 3, 3), [(1, 1, 1, 1, 1, 1), (2, 1, 1, 2, 1, 1), (4, 1, 1, 1, 1, 1)]), "", [2, 1, 0])

    def test_two_in_each_others_way(self):
        self.told(part_text((2, 1, 1), [cell(0), cell(1)]), "tool 0 r 2\ntool 1 l 2\n", [])
        self.told(part_text((3, 1, 1), [cell(0), cell(1), cell(2)]), "tool 0 r 3\ntool 2 l 3\n", [1])
        # A third that takes one of the two away frees them both.
        self.told(part_text((2, 1, 1), [cell(0), cell(1), cell(1)]), "tool 0 r 2\ntool 1 l 2\n", [2, 0, 1])

    def test_four_in_a_ring(self):
        cuts = [(0, 0, 0, 1, 1, 1), (1, 0, 0, 1, 1, 1), (1, 1, 0, 1, 1, 1), (0, 1, 0, 1, 1, 1)]
        self.told(part_text((2, 2, 1), cuts), "tool 0 r 2\ntool 1 b 2\ntool 2 l 2\ntool 3 f 2\n", [])
        self.told(part_text((2, 2, 1), cuts), "tool 0 r 2\ntool 1 b 2\ntool 2 l 2\ntool 3 l 2\n", [3, 2, 1, 0])

    def test_those_behind_one_that_is_never_made(self):
        tools = tool_text([(0, "r", 5), (1, "r", 5), (2, "r", 5), (3, "r", 1), (4, "r", 5)])
        self.told(part_text(ROW, [cell(x) for x in range(5)]), tools, [4])

    def test_cells_cut_away_by_another(self):
        part = part_text((3, 3, 3), [(1, 1, 1, 1, 1, 1), (1, 1, 0, 1, 1, 3)])
        self.told(part, "tool 1 u 3\n", [1, 0])
        self.told(part, "tool 0 r 2\ntool 1 u 3\n", [1, 0])
        self.told(part, "tool 0 r 1\ntool 1 u 3\n", [1])


class Refusals(OrderCase):
    def test_texts(self):
        for part, tools, answer in REFUSED:
            self.alike(order(signs(part), signs(tools)), answer, (part[:200], tools[:200]))


class Drawn(OrderCase):
    def test_second_reading(self):
        never = 0
        turned = 0
        for part, tools in drawn(6, 400):
            reading = Reading(part, tools)
            found = reading.order()
            self.told(part, tools, found)
            never += len(found) < len(reading.boxes)
            turned += found != sorted(found)
        self.assertGreater(never, 40)
        self.assertGreater(turned, 40)

    def test_second_reading_of_large_parts(self):
        source = random.Random(61)
        for number in range(30):
            part, tools = draw(source, (12, 11, 13), 14)
            self.told(part, tools, Reading(part, tools).order())

    def test_the_same_are_made_whichever_is_taken(self):
        source = random.Random(62)
        for part, tools in drawn(63, 250):
            reading = Reading(part, tools)
            made = order(signs(part), signs(tools))[1:]
            for turn in range(3):
                self.assertEqual(sorted(reading.made_by_chance(source)), sorted(made), (part, tools))

    def test_each_can_be_made_at_its_turn_and_none_else_in_the_end(self):
        for part, tools in drawn(64, 300):
            made = order(signs(part), signs(tools))[1:]
            for at, k in enumerate(made):
                self.assertNotIn(k, made[:at])
                self.assertNotEqual(reach(k, signs(part), signs(tools), made[:at]), [0], (k, part, tools))
                for less in range(k):
                    if less not in made[:at]:
                        self.assertEqual(reach(less, signs(part), signs(tools), made[:at]), [0], (less, part, tools))
            for k in range(len(part.splitlines()) - 1):
                if k not in made:
                    self.assertEqual(reach(k, signs(part), signs(tools), made), [0], (k, part, tools))


class NothingKept(OrderCase):
    def test_lists_stay_and_the_same_comes_again(self):
        for part, tools in drawn(65, 80):
            self.nothing_kept(order, signs(part), signs(tools))
        for part, tools, answer in REFUSED:
            self.nothing_kept(order, signs(part), signs(tools))

    def test_calls_do_not_meet(self):
        cases = [(signs(part), signs(tools)) for part, tools in drawn(66, 100)]
        answers = [order(*case) for case in cases]
        for case, answer in reversed(list(zip(cases, answers))):
            self.alike(order(*case), answer)


class GoodTime(OrderCase):
    def test_each_waits_for_one_with_a_greater_number(self):
        part, tools = snake()
        found = self.in_good_time(order, signs(part), signs(tools))
        self.alike(found, [64] + list(range(63, -1, -1)))

    def test_large_cuts_and_all_ways(self):
        # Layers of a pit, four of each but eight of the uppermost: none can be reached but from above.
        cuts = [(1, 1, min(1 + k // 4, 15), 14, 14, 1) for k in range(64)]
        found = self.in_good_time(order, signs(part_text((16, 16, 16), cuts)), [])
        down = list(range(56, -1, -4))
        self.alike(found, [64] + down + [k for k in range(64) if k not in down])

    def test_none_is_ever_made(self):
        part = part_text((16, 16, 16), [(1, 1, 1, 14, 14, 14)] * 64)
        self.alike(self.in_good_time(order, signs(part), []), [0])


if __name__ == "__main__":
    unittest.main()
