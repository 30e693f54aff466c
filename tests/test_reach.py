"""Promise 3, and all that the document says of reach."""

import random
import unittest

from cutreach.tools import reach
from helper import (GREATEST, REFUSED, WAY_SIGNS, CallCase, Reading, draw, drawn, part_text, signs, tool_text)

ALL_SIX = [6, 0, 1, 2, 3, 4, 5]


class ReachCase(CallCase):
    def told(self, k, part, tools, made, answer):
        self.alike(reach(k, signs(part), signs(tools), list(made)), answer, (k, part[:400], tools[:400], made[:40]))


class Answer(ReachCase):
    def test_how_many_then_they_rising(self):
        block = (3, 3, 3)
        for cut, answer in (
            ((0, 0, 0, 3, 3, 3), ALL_SIX),
            ((2, 1, 1, 1, 1, 1), [1, 0]),
            ((0, 1, 1, 1, 1, 1), [1, 1]),
            ((1, 2, 1, 1, 1, 1), [1, 2]),
            ((1, 0, 1, 1, 1, 1), [1, 3]),
            ((1, 1, 2, 1, 1, 1), [1, 4]),
            ((1, 1, 0, 1, 1, 1), [1, 5]),
            ((1, 1, 1, 1, 1, 1), [0]),
            ((0, 1, 1, 3, 1, 1), [2, 0, 1]),
            ((1, 0, 1, 1, 3, 1), [2, 2, 3]),
            ((1, 1, 0, 1, 1, 3), [2, 4, 5]),
            ((2, 2, 2, 1, 1, 1), [3, 0, 2, 4]),
            ((0, 0, 0, 1, 1, 1), [3, 1, 3, 5]),
            ((0, 0, 1, 3, 3, 1), [4, 0, 1, 2, 3]),
            ((1, 0, 0, 2, 3, 3), [5, 0, 2, 3, 4, 5]),
        ):
            self.told(0, part_text(block, [cut]), "", [], answer)

    def test_block_of_one_cell(self):
        self.told(0, "part a 1 1 1 y\ncut 0 0 0 1 1 1\n", "", [], ALL_SIX)
        self.told(0, "part a 1 1 1 y\ncut 0 0 0 1 1 1\n", "tool 0 bd 1\n", [], [2, 2, 5])

    def test_grain_does_not_matter(self):
        for grain in "xyz":
            self.told(0, f"part a 3 3 3 {grain}\ncut 1 1 1 1 1 2\n", "", [], [1, 4])


class EachWay(ReachCase):
    """A cut within the block, and for each way the cut that frees it and how deep it lies from there."""

    BLOCK = (12, 10, 9)
    CUT = (3, 1, 4, 4, 6, 2)
    FREED = (
        ((7, 1, 4, 5, 6, 2), 9),
        ((0, 1, 4, 3, 6, 2), 7),
        ((3, 7, 4, 4, 3, 2), 9),
        ((3, 0, 4, 4, 1, 2), 7),
        ((3, 1, 6, 4, 6, 3), 5),
        ((3, 1, 0, 4, 6, 4), 6),
    )
    PART = part_text(BLOCK, [CUT] + [box for box, depth in FREED])

    def test_wood_in_the_way(self):
        self.told(0, self.PART, "", [], [0])
        for way in range(6):
            self.told(0, self.PART, "", [way + 1], [1, way])
            self.told(0, self.PART, "", [other + 1 for other in range(6) if other != way],
                      [5] + [other for other in range(6) if other != way])
        self.told(0, self.PART, "", [1, 2, 3, 4, 5, 6], ALL_SIX)

    def test_ways_of_the_tool(self):
        made = [1, 2, 3, 4, 5, 6]
        for chosen in range(1, 64):
            found = [way for way in range(6) if chosen >> way & 1]
            word = "".join(WAY_SIGNS[way] for way in found)
            self.told(0, self.PART, f"tool 0 {word} 16\n", made, [len(found)] + found)
        for way in range(6):
            others = [other + 1 for other in range(6) if other != way]
            self.told(0, self.PART, f"tool 0 {WAY_SIGNS[way]} 16\n", others, [0])

    def test_depth(self):
        for way, (box, depth) in enumerate(self.FREED):
            for reaches in range(1, 17):
                answer = [1, way] if reaches >= depth else [0]
                self.told(0, self.PART, f"tool 0 rlbfud {reaches}\n", [way + 1], answer)
                self.told(0, self.PART, f"tool 0 {WAY_SIGNS[way]} {reaches}\n", [way + 1], answer)
        for reaches in range(1, 17):
            found = [way for way in range(6) if self.FREED[way][1] <= reaches]
            self.told(0, self.PART, f"tool 0 rlbfud {reaches}\n", [1, 2, 3, 4, 5, 6], [len(found)] + found)

    def test_depth_of_a_cut_at_the_face(self):
        part = part_text((8, 7, 6), [(0, 0, 0, 8, 7, 6)])
        for way, depth in enumerate((8, 8, 7, 7, 6, 6)):
            self.told(0, part, f"tool 0 {WAY_SIGNS[way]} {depth}\n", [], [1, way])
            self.told(0, part, f"tool 0 {WAY_SIGNS[way]} {depth - 1}\n", [], [0])

    def test_made_only_in_part(self):
        """Wherever one cell of wood is left over, it is in the way."""
        for box, depth in self.FREED:
            for left in self.cells(box):
                halves = self.around(box, left)
                part = part_text(self.BLOCK, [self.CUT] + halves)
                made = list(range(1, len(halves) + 1))
                self.told(0, part, "", made, [0])
        for way, (box, depth) in enumerate(self.FREED):
            halves = [box[:3] + (1,) + box[4:], (box[0] + 1,) + box[1:3] + (box[3] - 1,) + box[4:]]
            part = part_text(self.BLOCK, [self.CUT] + halves)
            self.told(0, part, "", [1, 2], [1, way])
            self.told(0, part, "", [1], [0])
            self.told(0, part, "", [2], [0])

    def cells(self, box):
        """A cell at each corner of the box and one within."""
        spans = [sorted({start, start + size // 2, start + size - 1}) for start, size in zip(box[:3], box[3:])]
        return [(x, y, z) for x in spans[0] for y in spans[1] for z in spans[2]]

    def around(self, box, left):
        """Boxes that take away all of the box but one cell."""
        start = list(box[:3])
        size = list(box[3:])
        found = []
        for axis in range(3):
            for side in (range(start[axis], left[axis]), range(left[axis] + 1, start[axis] + size[axis])):
                if len(side):
                    places = start[:axis] + [side.start] + start[axis + 1:]
                    found.append(places + size[:axis] + [len(side)] + size[axis + 1:])
            start[axis] = left[axis]
            size[axis] = 1
        return found


class CutAwayAlready(ReachCase):
    def test_what_stands_farther_out_than_cells_cut_away(self):
        # Cut 1 clears what's above the cell at 0 0 1; the one at 1 0 1 stays under wood, but cut 2 takes it from below.
        part = part_text((3, 1, 3), [(0, 0, 1, 2, 1, 1), (0, 0, 2, 1, 1, 1), (1, 0, 0, 1, 1, 2)])
        self.told(0, part, "tool 0 u 16\n", [], [0])
        self.told(0, part, "tool 0 u 16\n", [1], [0])
        self.told(0, part, "tool 0 u 16\n", [2], [0])
        self.told(0, part, "tool 0 u 16\n", [1, 2], [1, 4])

    def test_inner_cells_cut_away_do_not_free_the_line(self):
        part = part_text((1, 1, 4), [(0, 0, 1, 1, 1, 2), (0, 0, 0, 1, 1, 2), (0, 0, 2, 1, 1, 1), (0, 0, 1, 1, 1, 2)])
        self.told(0, part, "tool 0 u 16\n", [1], [0])
        self.told(0, part, "tool 0 u 16\n", [2], [0])
        self.told(0, part, "tool 0 u 16\n", [1, 2], [1, 4])
        self.told(0, part, "tool 0 u 16\n", [3], [1, 4])

    def test_cells_farther_out_in_the_box_itself(self):
        for way, block in enumerate(((4, 1, 1), (4, 1, 1), (1, 4, 1), (1, 4, 1), (1, 1, 4), (1, 1, 4))):
            axis = way // 2
            cut = [0, 0, 0, 1, 1, 1]
            cut[axis] = 1 if way % 2 == 0 else 0
            cut[axis + 3] = 3
            self.told(0, part_text(block, [cut]), f"tool 0 {WAY_SIGNS[way]} 3\n", [], [1, way])

    def test_box_without_wood(self):
        cut = (1, 1, 1, 1, 1, 1)
        part = part_text((4, 3, 3), [cut, cut])
        self.told(0, part, "", [], [0])
        self.told(0, part, "", [1], ALL_SIX)
        self.told(0, part, "tool 0 rlbfud 2\n", [1], [5, 1, 2, 3, 4, 5])
        self.told(0, part, "tool 0 rd 2\n", [1], [1, 5])
        self.told(0, part, "tool 0 rd 1\n", [1], [0])

    def test_box_without_wood_by_two_cuts(self):
        part = part_text((6, 3, 3), [(1, 1, 1, 4, 1, 1), (1, 1, 1, 2, 1, 1), (3, 1, 1, 2, 1, 1)])
        self.told(0, part, "", [1], [0])
        self.told(0, part, "", [2], [0])
        self.told(0, part, "", [1, 2], ALL_SIX)

    def test_cut_that_is_made_twice(self):
        part = part_text((3, 1, 1), [(1, 0, 0, 1, 1, 1), (2, 0, 0, 1, 1, 1), (2, 0, 0, 1, 1, 1)])
        self.told(0, part, "tool 0 r 2\n", [], [0])
        for made in ([1], [2], [1, 2]):
            self.told(0, part, "tool 0 r 2\n", made, [1, 0])


class ToolLines(ReachCase):
    CUTS = [(0, 0, 0, 16, 16, 16), (15, 0, 0, 1, 1, 1), (0, 0, 0, 1, 1, 1)]
    PART = part_text((16, 16, 16), CUTS)

    def test_cut_without_a_line(self):
        self.told(0, self.PART, "", [], ALL_SIX)
        self.told(0, self.PART, "tool 1 u 1\ntool 2 d 1\n", [], ALL_SIX)

    def test_line_of_this_cut(self):
        self.told(0, self.PART, "tool 0 rlbfud 16\n", [], ALL_SIX)
        self.told(0, self.PART, "tool 0 rlbfud 15\n", [], [0])
        self.told(1, self.PART, "tool 1 rf 16\n", [], [2, 0, 3])
        self.told(1, self.PART, "tool 0 rf 16\n", [], [3, 0, 3, 5])

    def test_lines_in_any_order(self):
        rows = [(0, "bu", 16), (1, "rf", 1), (2, "ld", 1)]
        for order in ((0, 1, 2), (2, 1, 0), (1, 2, 0), (2, 0, 1)):
            tools = tool_text([rows[at] for at in order])
            self.told(0, self.PART, tools, [], [2, 2, 4])
            self.told(1, self.PART, tools, [], [2, 0, 3])
            self.told(2, self.PART, tools, [], [2, 1, 5])


class Made(ReachCase):
    PART = EachWay.PART

    def test_k_itself_is_not_looked_at(self):
        self.told(0, self.PART, "", [0], [0])
        self.told(0, self.PART, "", [0, 1, 0], [1, 0])
        self.told(1, self.PART, "", [1], [1, 0])
        # Were it made, its box would be without wood, and every way free.
        self.told(0, part_text((3, 3, 3), [(1, 1, 1, 1, 1, 1)]), "", [0], [0])

    def test_numbers_of_no_cut(self):
        for number in (7, 8, 63, 64, 1000, GREATEST - 1, GREATEST):
            self.told(0, self.PART, "", [number], [0])
            self.told(0, self.PART, "", [number, 5, number], [1, 4])
        self.told(0, self.PART, "", [7, GREATEST], [0])
        self.told(0, self.PART, "", [6], [1, 5])

    def test_a_number_more_than_once_in_any_order(self):
        for made in ([1, 6], [6, 1], [1, 1, 6], [6, 6, 1, 6, 1, 0, 7, 1]):
            self.told(0, self.PART, "", made, [2, 0, 5])

    def test_all_cuts(self):
        for made in (range(7), range(6, -1, -1), range(1000)):
            self.told(0, self.PART, "", made, ALL_SIX)

    def test_ten_thousand_numbers(self):
        for made, answer in (
            ([0] * 10000, [0]),
            ([GREATEST] * 10000, [0]),
            ([GREATEST] * 9999 + [3], [1, 2]),
            ([3] + [GREATEST] * 9999, [1, 2]),
            ([5] * 10000, [1, 4]),
            (list(range(10000)), ALL_SIX),
            (list(range(GREATEST, GREATEST - 9999, -1)) + [4], [1, 3]),
        ):
            self.assertEqual(len(made), 10000)
            found = self.in_good_time(reach, 0, signs(self.PART), [], made)
            self.alike(found, answer)


class Refusals(ReachCase):
    def test_no_such_cut(self):
        part = part_text((2, 2, 2), [(0, 0, 0, 1, 1, 1)] * 3)
        self.told(2, part, "", [], [3, 1, 3, 5])
        for k in (3, 4, 63, 64, 1000, GREATEST - 1, GREATEST):
            for made in ([], [0, 1, 2], [k]):
                self.told(k, part, "tool 2 u 1\n", made, [-4])

    def test_no_such_cut_of_64(self):
        part = part_text((2, 2, 2), [(0, 0, 0, 1, 1, 1)] * 64)
        self.told(63, part, "", [], [3, 1, 3, 5])
        self.told(64, part, "", [], [-4])

    def test_part_without_cuts(self):
        for k in (0, 1, GREATEST):
            self.told(k, "part a 2 2 2 x\n", "", [], [-4])
            self.told(k, "part a 2 2 2 x\n", "", [0], [-4])

    def test_texts_come_first(self):
        for part, tools, answer in REFUSED:
            for k in (0, 1, 99, GREATEST):
                self.told(k, part, tools, [0, 1], answer)


def boxes_in(block):
    spans = [[(start, size) for start in range(most) for size in range(1, most - start + 1)] for most in block]
    return [(x, y, z, w, d, h) for x, w in spans[0] for y, d in spans[1] for z, h in spans[2]]


class Drawn(ReachCase):
    def test_second_reading(self):
        source = random.Random(51)
        seen = {}
        for part, tools in drawn(5, 500):
            reading = Reading(part, tools)
            cuts = len(reading.boxes)
            for k in range(cuts):
                made = [source.randrange(cuts + 2) for number in range(source.randrange(2 * cuts + 1))]
                ways = reading.ways_reached(k, made)
                self.told(k, part, tools, made, [len(ways)] + ways)
                seen[len(ways)] = True
        self.assertEqual(sorted(seen), [0, 1, 2, 3, 4, 5, 6])

    def test_second_reading_of_large_parts(self):
        source = random.Random(52)
        for number in range(40):
            part, tools = draw(source, (16, 14, 15), 20)
            reading = Reading(part, tools)
            cuts = len(reading.boxes)
            for k in range(cuts):
                made = source.sample(range(cuts), source.randint(0, cuts))
                ways = reading.ways_reached(k, made)
                self.told(k, part, tools, made, [len(ways)] + ways)

    def test_every_two_boxes(self):
        for block in ((4, 1, 1), (1, 3, 2), (2, 1, 3)):
            boxes = boxes_in(block)
            for cut in boxes:
                for other in boxes:
                    part = part_text(block, [cut, other])
                    ways = Reading(part, "").ways_reached(0, [1])
                    self.told(0, part, "", [1], [len(ways)] + ways)

    def test_reached_still_when_more_is_made(self):
        source = random.Random(53)
        grown = 0
        for part, tools in drawn(54, 300):
            cuts = len(part.splitlines()) - 1
            for k in range(cuts):
                made = []
                ways = []
                for more in source.sample(range(cuts), cuts):
                    found = reach(k, signs(part), signs(tools), made)[1:]
                    self.assertLessEqual(set(ways), set(found), (k, part, tools, made))
                    grown += len(found) > len(ways) and made != []
                    ways = found
                    made.append(more)
        self.assertGreater(grown, 50)


class NothingKept(ReachCase):
    def test_lists_stay_and_the_same_comes_again(self):
        for part, tools in drawn(55, 60) + [(EachWay.PART, "tool 0 rlbfud 8\n")]:
            for k in (0, 1, GREATEST):
                self.nothing_kept(reach, k, signs(part), signs(tools), [3, 1, 0, 3, 99, 2])
                self.nothing_kept(reach, k, signs(part), signs(tools), [])
        for part, tools, answer in REFUSED:
            self.nothing_kept(reach, 0, signs(part), signs(tools), [1, 0, 1])

    def test_calls_do_not_meet(self):
        cases = [(k, signs(part), signs(tools), made)
                 for part, tools in drawn(56, 40) for k in (0, 1, 2) for made in ([], [0, 1, 2, 3])]
        answers = [reach(*case) for case in cases]
        for case, answer in reversed(list(zip(cases, answers))):
            self.alike(reach(*case), answer)


class LargestBlock(ReachCase):
    def test_one_line_of_cells_left(self):
        """A cell in a line whose other cells are wood, with nothing else left: free but along the line."""
        for axis in range(3):
            for u in (0, 1, 7, 14, 15):
                for v in (0, 1, 7, 14, 15):
                    cut, around = self.line_left(axis, u, v)
                    made = range(1, len(around) + 1)
                    ways = [way for way in range(6) if way // 2 != axis]
                    self.told(0, part_text((16, 16, 16), [cut] + around), "", list(made), [4] + ways)

    def line_left(self, axis, u, v):
        """A cell in the middle of a line along the axis, and boxes of all but this line."""
        def placed(along, length, across, width, second, depth):
            places = [across, second]
            sizes = [width, depth]
            places.insert(axis, along)
            sizes.insert(axis, length)
            return places + sizes
        spans = [placed(0, 16, 0, u, 0, 16), placed(0, 16, u + 1, 15 - u, 0, 16),
                 placed(0, 16, u, 1, 0, v), placed(0, 16, u, 1, v + 1, 15 - v)]
        return placed(8, 1, u, 1, v, 1), [box for box in spans if 0 not in box[3:]]


class GoodTime(ReachCase):
    def test_64_cuts_of_the_whole_block(self):
        part = signs(part_text((16, 16, 16), [(0, 0, 0, 16, 16, 16)] * 64))
        tools = signs(tool_text([(k, "rlbfud", 16) for k in range(64)]))
        self.alike(self.in_good_time(reach, 63, part, tools, list(range(64))), ALL_SIX)
        self.alike(self.in_good_time(reach, 63, part, tools, []), ALL_SIX)


if __name__ == "__main__":
    unittest.main()
