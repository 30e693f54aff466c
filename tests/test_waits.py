"""Promise 5, and all that the document says of waits."""

import random
import unittest

from cutreach.tools import order, waits
from helper import (GREATEST, REFUSED, CallCase, Reading, draw, drawn, part_text, row_of_cells, signs, snake)


class WaitsCase(CallCase):
    def told(self, a, b, part, tools, answer):
        self.alike(waits(a, b, signs(part), signs(tools)), [answer], (a, b, part[:400], tools[:400]))


class Waiting(WaitsCase):
    def test_one_frees_the_other(self):
        part = part_text((1, 1, 2), [(0, 0, 0, 1, 1, 1), (0, 0, 1, 1, 1, 1)])
        tools = "tool 0 u 2\ntool 1 u 2\n"
        self.told(1, 0, part, tools, 1)
        self.told(0, 1, part, tools, 0)

    def test_what_frees_what_frees_it(self):
        part, tools = row_of_cells((0, 1, 2, 3, 4))
        for a in range(5):
            for b in range(5):
                if a != b:
                    self.told(a, b, part, tools, 1 if a > b else 0)
        part, tools = row_of_cells((2, 4, 0, 3, 1))
        self.told(1, 2, part, tools, 1)
        self.told(2, 1, part, tools, 0)
        self.told(4, 0, part, tools, 0)

    def test_one_of_two_is_enough(self):
        # The cell in the middle can be reached from the right, behind cut 1, or from above, behind cut 2.
        part = part_text((3, 3, 3), [(1, 1, 1, 1, 1, 1), (2, 1, 1, 1, 1, 1), (1, 1, 2, 1, 1, 1)])
        self.told(1, 0, part, "", 0)
        self.told(2, 0, part, "", 0)
        self.told(1, 0, part, "tool 0 rd 16\n", 1)
        self.told(2, 0, part, "tool 0 rd 16\n", 0)

    def test_two_that_take_away_the_same(self):
        part = part_text((1, 1, 2), [(0, 0, 0, 1, 1, 1), (0, 0, 1, 1, 1, 1), (0, 0, 1, 1, 1, 1)])
        self.told(1, 0, part, "tool 0 u 2\n", 0)
        self.told(2, 0, part, "tool 0 u 2\n", 0)
        self.told(1, 0, part, "tool 0 u 2\ntool 2 u 16\n", 0)
        # Cut 2 may only come from below, so it waits for 0 itself or for 1.
        self.told(1, 0, part, "tool 0 u 2\ntool 2 d 2\n", 1)

    def test_both_are_needed(self):
        part = part_text((2, 1, 2), [(0, 0, 0, 2, 1, 1), (0, 0, 1, 1, 1, 1), (1, 0, 1, 1, 1, 1)])
        self.told(1, 0, part, "tool 0 u 2\n", 1)
        self.told(2, 0, part, "tool 0 u 2\n", 1)
        self.told(1, 2, part, "tool 0 u 2\n", 0)
        self.told(2, 1, part, "tool 0 u 2\n", 0)

    def test_both_ways_lead_over_one(self):
        # Cut 0 goes behind 1 or behind 2, both of which wait for 3.
        cuts = [(1, 1, 1, 1, 1, 1), (2, 1, 1, 1, 1, 1), (1, 2, 1, 1, 1, 1), (1, 1, 2, 2, 2, 1)]
        tools = "tool 0 rb 16\ntool 1 u 16\ntool 2 u 16\n"
        part = part_text((3, 3, 3), cuts)
        self.told(1, 0, part, tools, 0)
        self.told(2, 0, part, tools, 0)
        self.told(3, 0, part, tools, 1)
        self.told(3, 1, part, tools, 1)
        self.told(3, 2, part, tools, 1)

    def test_nothing_to_do_with_one_another(self):
        part = part_text((3, 1, 1), [(0, 0, 0, 1, 1, 1), (2, 0, 0, 1, 1, 1)])
        self.told(0, 1, part, "", 0)
        self.told(1, 0, part, "", 0)

    def test_a_that_is_never_made(self):
        part = part_text((3, 1, 2), [(0, 0, 0, 1, 1, 1), (2, 0, 0, 1, 1, 1), (0, 0, 1, 1, 1, 1)])
        self.told(1, 0, part, "tool 0 lu 2\ntool 1 l 16\n", 0)
        self.told(1, 2, part, "tool 1 l 16\n", 0)
        # It stands in the way of the other, which is freed by one that's made.
        part = part_text((1, 1, 2), [(0, 0, 0, 1, 1, 1), (0, 0, 1, 1, 1, 1), (0, 0, 1, 1, 1, 1)])
        self.told(2, 0, part, "tool 0 u 2\ntool 1 d 1\n", 1)
        self.told(1, 0, part, "tool 0 u 2\ntool 1 d 1\n", 0)


class Refusals(WaitsCase):
    # Cut 0 is never made, cuts 1 and 2 are.
    PART = part_text((3, 3, 3), [(1, 1, 1, 1, 1, 1), (0, 0, 0, 1, 1, 1), (2, 0, 0, 1, 1, 1)])

    def test_no_such_cut(self):
        for none in (3, 4, 63, 64, GREATEST - 1, GREATEST):
            for k in (0, 1, 2):
                self.told(none, k, self.PART, "", -4)
                self.told(k, none, self.PART, "", -4)
            self.told(none, none, self.PART, "", -4)
        self.told(3, GREATEST, self.PART, "", -4)
        self.told(GREATEST, 3, self.PART, "", -4)

    def test_part_without_cuts(self):
        for a in (0, 1, GREATEST):
            for b in (0, 1, GREATEST):
                self.told(a, b, "part a 1 1 1 x\n", "", -4)

    def test_no_such_cut_of_64(self):
        part = part_text((1, 1, 1), [(0, 0, 0, 1, 1, 1)] * 64)
        self.told(63, 62, part, "", 0)
        self.told(64, 62, part, "", -4)
        self.told(62, 64, part, "", -4)

    def test_alike(self):
        for k in (0, 1, 2):
            self.told(k, k, self.PART, "", -8)

    def test_never_made(self):
        for a in (1, 2):
            self.told(a, 0, self.PART, "", -3)
            self.told(0, a, self.PART, "", 0)
        part, tools = row_of_cells((0, 1, 2, 3, 4))
        tools = tools.replace("tool 2 r 16", "tool 2 r 2")
        for b, answer in ((0, -3), (1, -3), (2, -3), (3, 1)):
            self.told(4, b, part, tools, answer)
        self.told(0, 1, part, tools, -3)
        self.told(2, 1, part, tools, -3)
        self.told(1, 4, part, tools, 0)

    def test_texts_come_first(self):
        for part, tools, answer in REFUSED:
            for a, b in ((0, 1), (0, 0), (0, 99), (99, 0), (GREATEST, GREATEST)):
                self.alike(waits(a, b, signs(part), signs(tools)), answer, (a, b, part[:200], tools[:200]))


class Drawn(WaitsCase):
    ANSWERS = {None: -3, True: 1, False: 0}

    def all_pairs(self, part, tools, source, seen):
        reading = Reading(part, tools)
        for a in range(len(reading.boxes)):
            for b in range(len(reading.boxes)):
                answer = -8 if a == b else self.ANSWERS[reading.waits(a, b, source)]
                self.told(a, b, part, tools, answer)
                seen[answer] = seen.get(answer, 0) + 1

    def test_second_reading(self):
        source = random.Random(81)
        seen = {}
        for number in range(400):
            part, tools = draw(source, most_cuts=7)
            self.all_pairs(part, tools, source, seen)
        for answer in (1, 0, -3, -8):
            self.assertGreater(seen[answer], 100)

    def test_second_reading_of_large_parts(self):
        source = random.Random(82)
        for number in range(8):
            part, tools = draw(source, (9, 10, 8), 7)
            self.all_pairs(part, tools, source, {})

    def test_waiting_goes_on_and_nobody_waits_both_ways(self):
        links = 0
        for part, tools in drawn(83, 250):
            made = order(signs(part), signs(tools))[1:]
            waiting = {(a, b): waits(a, b, signs(part), signs(tools))[0]
                       for a in made for b in made if a != b}
            for (a, b), found in waiting.items():
                self.assertFalse(found and waiting[(b, a)], (a, b, part, tools))
                for c in made:
                    if c not in (a, b) and found and waiting[(b, c)]:
                        self.assertEqual(waiting[(a, c)], 1, (a, b, c, part, tools))
                        links += 1
        self.assertGreater(links, 30)

    def test_it_comes_behind_what_it_waits_for_in_the_order(self):
        for part, tools in drawn(84, 100):
            made = order(signs(part), signs(tools))[1:]
            for at, b in enumerate(made):
                for a in made[at + 1:]:
                    self.told(a, b, part, tools, 0)


class NothingKept(WaitsCase):
    def test_lists_stay_and_the_same_comes_again(self):
        for part, tools in drawn(85, 50):
            for a, b in ((0, 1), (1, 0), (2, 2), (0, GREATEST)):
                self.nothing_kept(waits, a, b, signs(part), signs(tools))
        for part, tools, answer in REFUSED:
            self.nothing_kept(waits, 0, 1, signs(part), signs(tools))

    def test_calls_do_not_meet(self):
        cases = [(a, b, signs(part), signs(tools))
                 for part, tools in drawn(86, 40) for a, b in ((0, 1), (1, 2), (2, 0))]
        answers = [waits(*case) for case in cases]
        for case, answer in reversed(list(zip(cases, answers))):
            self.alike(waits(*case), answer)


class GoodTime(WaitsCase):
    def test_each_waits_for_one_with_a_greater_number(self):
        part, tools = snake()
        for a, b, answer in ((63, 0, 1), (0, 63, 0), (1, 0, 1), (32, 31, 1), (31, 32, 0)):
            self.alike(self.in_good_time(waits, a, b, signs(part), signs(tools)), [answer])

    def test_large_cuts_and_all_ways(self):
        cuts = [(1, 1, min(1 + k // 4, 15), 14, 14, 1) for k in range(64)]
        part = signs(part_text((16, 16, 16), cuts))
        self.alike(self.in_good_time(waits, 63, 0, part, []), [0])


if __name__ == "__main__":
    unittest.main()
