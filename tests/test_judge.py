"""Promise 1, and all that the document says of judge."""

import unittest

from cutreach.tools import judge
from helper import MOST, CallCase, expected_judge, signs

PART = "part a1 16 8 4 x\n"
CUTS = PART + "cut 0 0 0 1 1 1\ncut 3 2 1 4 4 2\ncut 15 7 3 1 1 1\n"


class JudgeCase(CallCase):
    def told(self, part, tools, answer):
        self.alike(judge(signs(part), signs(tools)), answer, (part[:200], tools[:200]))

    def right(self, part, tools=""):
        self.told(part, tools, [0])

    def part_fault(self, part, line, why, tools=""):
        self.told(part, tools, [-6, line, why])

    def tools_fault(self, tools, line, why, part=CUTS):
        self.told(part, tools, [-6, line, why + 16])


class RightTexts(JudgeCase):
    def test_parts(self):
        self.right(PART)
        self.right(CUTS)
        for grain in "xyz":
            self.right(f"part a 3 2 1 {grain}\ncut 0 0 0 3 2 1\n")

    def test_cuts_that_meet_are_right(self):
        self.right(PART + "cut 0 0 0 2 2 2\ncut 1 1 1 2 2 2\ncut 1 1 1 2 2 2\n")

    def test_tools_of_some_cuts_in_any_order(self):
        self.right(CUTS, "tool 1 rlbfud 16\n")
        self.right(CUTS, "tool 2 u 1\ntool 0 rd 3\n")
        self.right(CUTS, "tool 2 u 1\ntool 0 rd 3\ntool 1 lf 16\n")

    def test_every_word_of_ways(self):
        for chosen in range(1, 64):
            word = "".join("rlbfud"[way] for way in range(6) if chosen >> way & 1)
            self.right(CUTS, f"tool 0 {word} 5\n")

    def test_tools_of_64_cuts(self):
        part = PART + "cut 0 0 0 1 1 1\n" * 64
        self.right(part, "".join(f"tool {k} u 2\n" for k in reversed(range(64))))


class Length(JudgeCase):
    def test_part(self):
        for size, answer in ((MOST - 1, [-6, 0, 1]), (MOST, [-6, 0, 1]), (MOST + 1, [-2]), (16500, [-2])):
            self.told("a" * size, "", answer)

    def test_tools(self):
        for size, answer in ((MOST - 1, [-6, 0, 17]), (MOST, [-6, 0, 17]), (MOST + 1, [-2]), (16500, [-2])):
            self.told(PART, "a" * size, answer)

    def test_length_is_each_texts_own(self):
        self.told("a" * MOST, "a" * MOST, [-6, 0, 1])
        self.told("a" * (MOST + 1), "a" * (MOST + 1), [-2])

    def test_ahead_of_every_fault(self):
        long_text = "a" * (MOST + 1)
        for part in ("", "cut 0 0 0 1 1 1\n", PART + "x", CUTS):
            self.told(part, long_text, [-2])
        for tools in ("", "x", "tool 9 u 1\n", "tool 0 u 1\n" * 2):
            self.told(long_text, tools, [-2])
        self.told(CUTS + "\n" * (MOST + 1 - len(CUTS)), "", [-2])
        self.told(CUTS + "\n" * (MOST - len(CUTS)), "", [-6, 4, 1])


class PartForm(JudgeCase):
    def test_no_lines(self):
        self.part_fault("", 0, 3)

    def test_line_feed(self):
        self.part_fault(PART[:-1], 0, 1)
        self.part_fault(CUTS[:-1], 3, 1)
        self.part_fault(PART + "c", 1, 1)
        self.part_fault("cut 0 0 0 1 1 1", 0, 1)
        self.part_fault(PART + PART[:-1], 1, 1)
        self.part_fault(PART + "cut 16 0 0 1 1 1", 1, 1)

    def test_empty_lines(self):
        self.part_fault("\n", 0, 1)
        self.part_fault("\n" + PART, 0, 1)
        self.part_fault(PART + "\n", 1, 1)
        self.part_fault(CUTS + "\n", 4, 1)

    def test_blanks(self):
        for line in ("part a 1 1 1 x", "cut 0 0 0 1 1 1"):
            above = PART if line.startswith("cut") else ""
            number = len(above.splitlines())
            self.part_fault(above + " " + line + "\n", number, 1)
            self.part_fault(above + line + " \n", number, 1)
            for place in [at for at, sign in enumerate(line) if sign == " "]:
                self.part_fault(above + line[:place] + " " + line[place:] + "\n", number, 1)
                self.part_fault(above + line[:place] + line[place + 1:] + "\n", number, 1)
                self.part_fault(above + line[:place] + "\t" + line[place + 1:] + "\n", number, 1)

    def test_words_too_many_or_too_few(self):
        for line in ("part", "part a 1 1 1", "part a 1 1 x", "part 1 1 1 x", "part a 1 1 1 1 x", "part a 1 1 1 x x"):
            self.part_fault(line + "\n", 0, 1)
        for line in ("cut", "cut 0 0 0 1 1", "cut 0 0 0 1 1 1 1", "cut 0 0 0 1 1 1 x", "0 0 0 1 1 1"):
            self.part_fault(PART + line + "\n", 1, 1)

    def test_first_words(self):
        for word in ("Part", "PART", "parts", "par", "cut", "tool", "p"):
            self.part_fault(f"{word} a 1 1 1 x\n", 0, 1)
        for word in ("Cut", "CUT", "cuts", "cu", "part", "tool", "c"):
            self.part_fault(PART + f"{word} 0 0 0 1 1 1\n", 1, 1)

    def test_names(self):
        for name in ("a", "z", "0", "9", "007", "part", "x", "abcdefghij12", "0" * 12):
            self.right(f"part {name} 1 1 1 x\n")
        for name in ("", "abcdefghij123", "0" * 13, "A", "Z", "a_b", "a-b", "a.b", "`", "{", "/", ":", "a" * 5000):
            self.part_fault(f"part {name} 1 1 1 x\n", 0, 1)

    def test_grain(self):
        for grain in ("", "w", "X", "Y", "Z", "xy", "xx", "{", "0", "1"):
            self.part_fault(f"part a 1 1 1 {grain}\n", 0, 1)

    def test_block_sizes(self):
        for axis in range(3):
            for size in range(1, 17):
                self.right(self.block_line(axis, str(size)))
            for size in ("0", "17", "18", "20", "99", "100", "00", "01", "016", "", "-1", "+1", "1x", "9" * 9000):
                self.part_fault(self.block_line(axis, size), 0, 1)

    def block_line(self, axis, size):
        sizes = ["2", "3", "4"]
        sizes[axis] = size
        return f"part a {sizes[0]} {sizes[1]} {sizes[2]} y\n"

    def test_cut_sizes(self):
        block = "part a 16 16 16 z\n"
        for axis in range(3):
            for size in range(1, 17):
                self.right(block + self.cut_line(3 + axis, str(size)))
            for size in ("0", "17", "18", "20", "99", "100", "00", "01", "016", "", "-1", "+1", "1x", "9" * 9000):
                self.part_fault(block + self.cut_line(3 + axis, size), 1, 1)

    def test_cut_places(self):
        block = "part a 16 16 16 z\n"
        for axis in range(3):
            for place in range(16):
                self.right(block + self.cut_line(axis, str(place)))
            for place in ("16", "17", "99", "256", "4294967295", "4294967296", "18446744073709551616",
                          "1" + "0" * 4299, "1" + "0" * 4300, "9" * 16000):
                self.part_fault(block + self.cut_line(axis, place), 1, 4)
            for place in ("00", "01", "015", "0" * 9000, "", "-0", "-1", "+1", "1x", "x", "1_0"):
                self.part_fault(block + self.cut_line(axis, place), 1, 1)

    def cut_line(self, at, number):
        numbers = ["0", "0", "0", "1", "1", "1"]
        numbers[at] = number
        return "cut " + " ".join(numbers) + "\n"


class PartLines(JudgeCase):
    def test_cut_first(self):
        self.part_fault("cut 0 0 0 1 1 1\n", 0, 3)
        self.part_fault("cut 0 0 0 1 1 1\n" + PART, 0, 3)
        self.part_fault("cut 99 0 0 1 1 1\n", 0, 3)

    def test_second_part_line(self):
        self.part_fault(PART + PART, 1, 3)
        self.part_fault(CUTS + "part b 1 1 1 z\n", 4, 3)
        self.part_fault(CUTS + "part b 1 1 1 z\ncut 0 0 0 1 1 1\n", 4, 3)

    def test_beyond_the_block(self):
        block = "part a 7 6 5 x\n"
        for axis, most in ((0, 7), (1, 6), (2, 5)):
            for place in range(most + 1):
                places = [0, 0, 0]
                sizes = [1, 1, 1]
                places[axis] = place
                if place < most:
                    sizes[axis] = most - place
                    self.right(block + self.cut_line(places, sizes))
                sizes[axis] = most - place + 1
                self.part_fault(block + self.cut_line(places, sizes), 1, 4)

    def cut_line(self, places, sizes):
        return "cut " + " ".join(str(number) for number in places + sizes) + "\n"

    def test_64_cuts(self):
        cut = "cut 0 0 0 1 1 1\n"
        self.right(PART + cut * 63)
        self.right(PART + cut * 64)
        self.part_fault(PART + cut * 65, 65, 2)
        self.part_fault(PART + cut * 66, 65, 2)
        self.part_fault(PART + cut * 900, 65, 2)

    def test_first_of_several_reasons(self):
        full = PART + "cut 0 0 0 1 1 1\n" * 64
        self.part_fault(full + "cut 99 0 0 1 1 17\n", 65, 1)
        self.part_fault(full + "cut 0 0 0 1 1 1", 65, 1)
        self.part_fault(full + "cut 99 0 0 1 1 1", 65, 1)
        self.part_fault(full + PART, 65, 3)
        self.part_fault(full + PART[:-1], 65, 1)
        self.part_fault(full + "part a 17 1 1 x\n", 65, 1)
        self.part_fault(full + "cut 16 0 0 1 1 1\n", 65, 4)
        self.part_fault("cut 99 0 0 1 1 0\n", 0, 1)
        self.part_fault("cut 99 0 0 1 1 1\n", 0, 3)
        self.part_fault(PART + "part  b 1 1 1 x\n", 1, 1)

    def test_first_of_several_lines(self):
        self.part_fault(PART + "cut 16 0 0 1 1 1\n\n" + PART, 1, 4)
        self.part_fault(CUTS + PART + "\n", 4, 3)
        self.part_fault(CUTS + "\n" + PART, 4, 1)
        self.part_fault("x\n" + CUTS + PART, 0, 1)
        self.part_fault(PART + "cut 16 0 0 1 1 1\n" + "cut 0 0 0 1 1 1\n" * 70, 1, 4)


class ToolForm(JudgeCase):
    def test_no_lines(self):
        self.right(PART, "")
        self.right(CUTS, "")

    def test_line_feed(self):
        self.tools_fault("tool 0 u 1", 0, 1)
        self.tools_fault("tool 0 u 1\ntool 1 u 1", 1, 1)
        self.tools_fault("tool 9 u 1", 0, 1)
        self.tools_fault("tool 0 u 1\ntool 0 u 1", 1, 1)
        self.tools_fault("t", 0, 1)

    def test_empty_lines(self):
        self.tools_fault("\n", 0, 1)
        self.tools_fault("\ntool 0 u 1\n", 0, 1)
        self.tools_fault("tool 0 u 1\n\n", 1, 1)
        self.tools_fault("tool 0 u 1\n\ntool 1 u 1\n", 1, 1)
        self.tools_fault("\n", 0, 1, part=PART)

    def test_blanks(self):
        line = "tool 0 rl 1"
        self.tools_fault(" " + line + "\n", 0, 1)
        self.tools_fault(line + " \n", 0, 1)
        for place in [at for at, sign in enumerate(line) if sign == " "]:
            self.tools_fault(line[:place] + " " + line[place:] + "\n", 0, 1)
            self.tools_fault(line[:place] + line[place + 1:] + "\n", 0, 1)
            self.tools_fault(line[:place] + "\t" + line[place + 1:] + "\n", 0, 1)

    def test_words(self):
        for line in ("tool", "tool 0", "tool 0 u", "tool 0 1", "0 u 1", "tool 0 u 1 1", "tool 0 r l 1", "tool u 0 1",
                     "Tool 0 u 1", "tools 0 u 1", "too 0 u 1", "cut 0 u 1", "part a 1 1 1 x", "cut 0 0 0 1 1 1"):
            self.tools_fault(line + "\n", 0, 1)

    def test_ways(self):
        for word in ("", "lr", "dr", "du", "bl", "fb", "uf", "rbl", "rlbfdu", "duflbr"):
            self.tools_fault(f"tool 0 {word} 1\n", 0, 1)
        for way in "rlbfud":
            self.tools_fault(f"tool 0 {way}{way} 1\n", 0, 1)
            self.tools_fault(f"tool 0 {way.upper()} 1\n", 0, 1)
            self.tools_fault(f"tool 0 {way}x 1\n", 0, 1)
            self.tools_fault(f"tool 0 x{way} 1\n", 0, 1)
        for word in ("rlbfudr", "rrlbfud", "x", "rxl", "r,l", "0", "4", "r" * 9000):
            self.tools_fault(f"tool 0 {word} 1\n", 0, 1)

    def test_depth(self):
        for depth in range(1, 17):
            self.right(CUTS, f"tool 0 u {depth}\n")
        for depth in ("0", "17", "18", "20", "99", "100", "00", "01", "016", "", "-1", "+1", "1x", "u", "9" * 9000):
            self.tools_fault(f"tool 0 u {depth}\n", 0, 1)

    def test_numbers(self):
        for number in ("00", "01", "02", "0" * 9000, "", "-0", "-1", "+1", "1x", "x"):
            self.tools_fault(f"tool {number} u 1\n", 0, 1)


class ToolLines(JudgeCase):
    def test_no_such_cut(self):
        self.right(CUTS, "tool 2 u 1\n")
        for number in ("3", "4", "10", "63", "64", "65", "1000", "4294967295", "4294967296", "18446744073709551616",
                       "1" + "0" * 4299, "1" + "0" * 4300, "9" * 16000):
            self.tools_fault(f"tool {number} u 1\n", 0, 3)
        self.tools_fault("tool 0 u 1\n", 0, 3, part=PART)

    def test_no_such_cut_of_64(self):
        part = PART + "cut 0 0 0 1 1 1\n" * 64
        self.right(part, "tool 63 u 1\n")
        self.tools_fault("tool 64 u 1\n", 0, 3, part=part)
        self.tools_fault("".join(f"tool {k} u 1\n" for k in range(65)), 64, 3, part=part)

    def test_told_already(self):
        self.tools_fault("tool 0 u 1\ntool 0 u 1\n", 1, 4)
        self.tools_fault("tool 0 u 1\ntool 1 u 1\ntool 0 rd 2\n", 2, 4)
        self.tools_fault("tool 2 u 1\ntool 1 u 1\ntool 0 u 1\ntool 1 u 1\n", 3, 4)

    def test_first_of_several_reasons(self):
        self.tools_fault("tool 3 u 17\n", 0, 1)
        self.tools_fault("tool 3 ur 1\n", 0, 1)
        self.tools_fault("tool 3 u 1", 0, 1)
        self.tools_fault("tool 0 u 1\ntool 0 u 0\n", 1, 1)
        self.tools_fault("tool 0 u 1\ntool 0 u 1", 1, 1)
        self.tools_fault("tool 3 u 1\ntool 3 u 1\n", 0, 3)

    def test_first_of_several_lines(self):
        self.tools_fault("tool 0 u 1\ntool 3 u 1\n\n", 1, 3)
        self.tools_fault("tool 0 u 1\n\ntool 3 u 1\n", 1, 1)
        self.tools_fault("tool 0 u 1\ntool 0 u 1\ntool 3 u 1\n\n", 1, 4)

    def test_part_ahead_of_tools(self):
        for tools in ("x", "\n", "tool 9 u 1\n", "tool 0 u 1\ntool 0 u 1\n"):
            self.part_fault("", 0, 3, tools)
            self.part_fault(CUTS + "\n", 4, 1, tools)
            self.part_fault(CUTS + PART, 4, 3, tools)
            self.part_fault(CUTS + "cut 16 0 0 1 1 1\n", 4, 4, tools)
            self.part_fault(PART + "cut 0 0 0 1 1 1\n" * 65, 65, 2, tools)


def near(text):
    """Every text that is one byte away: one put in, one put in another's place, one left out."""
    for place in range(len(text) + 1):
        yield text[:place] + text[place + 1:]
        for sign in range(256):
            yield text[:place] + bytes([sign]) + text[place:]
            yield text[:place] + bytes([sign]) + text[place + 1:]


class EveryByte(JudgeCase):
    PART = b"part b7 12 3 2 y\ncut 10 0 1 2 3 1\ncut 1 0 0 1 1 1\n"
    TOOLS = b"tool 1 lbd 11\ntool 0 rf 2\n"

    def test_part(self):
        for part in near(self.PART):
            self.told(part, self.TOOLS, expected_judge(part, self.TOOLS))

    def test_tools(self):
        for tools in near(self.TOOLS):
            self.told(self.PART, tools, expected_judge(self.PART, tools))

    def test_bytes_of_no_line(self):
        for sign in (0, 1, 9, 11, 13, 31, 127, 128, 160, 178, 255):
            lone = bytes([sign])
            for part in (lone, lone + b"\n", PART.encode() + lone, PART.encode() + lone + b"\n"):
                self.part_fault(part, part.count(b"\n") - part.endswith(lone + b"\n"), 1)
            self.part_fault(PART.replace("\n", "").encode() + lone + b"\n", 0, 1)
            for tools in (lone, lone + b"\n", b"tool 0 u 1" + lone + b"\n", b"tool 0 u" + lone + b" 1\n"):
                self.tools_fault(tools, 0, 1)


class NothingKept(JudgeCase):
    CASES = (
        (CUTS, "tool 2 u 1\ntool 0 rd 3\n"),
        (CUTS, ""),
        ("", ""),
        (CUTS + "cut 16 0 0 1 1 1\n", ""),
        (PART + "cut 0 0 0 1 1 1\n" * 65, "x"),
        (CUTS, "tool 1 u 1\ntool 1 u 1\n"),
        (CUTS, "tool 1 u 1"),
        ("a" * (MOST + 1), ""),
        (CUTS, "a" * (MOST + 1)),
    )

    def test_lists_stay_and_the_same_comes_again(self):
        for part, tools in self.CASES:
            self.nothing_kept(judge, signs(part), signs(tools))

    def test_one_list_may_be_both(self):
        given = signs(PART)
        self.assertEqual(judge(given, given), [-6, 0, 17])
        self.assertEqual(given, signs(PART))

    def test_calls_do_not_meet(self):
        answers = [judge(signs(part), signs(tools)) for part, tools in self.CASES]
        for part, tools in reversed(self.CASES):
            self.told(part, tools, answers.pop())


if __name__ == "__main__":
    unittest.main()
