"""What the tests share: texts, drawn parts, and a second reading of the document, cell by cell."""

import random
import re
import time
import unittest

MOST = 16384
TOO_LONG = "a" * (MOST + 1)
WAY_SIGNS = "rlbfud"
STEPS = ((1, 0, 0), (-1, 0, 0), (0, 1, 0), (0, -1, 0), (0, 0, 1), (0, 0, -1))
GREATEST = 4294967295


def signs(text):
    return list(text) if isinstance(text, bytes) else [ord(sign) for sign in text]


def part_text(block, cuts):
    lines = ["part a1 %d %d %d x\n" % tuple(block)]
    return "".join(lines + ["cut %d %d %d %d %d %d\n" % tuple(cut) for cut in cuts])


def tool_text(rows):
    return "".join(f"tool {k} {word} {depth}\n" for k, word, depth in rows)


class Kept(list):
    """A list that tells when something tries to change it, even for a while."""

    def refuse(self, *args, **kwargs):
        raise AssertionError("what is handed in was changed")

    append = clear = extend = insert = pop = remove = reverse = sort = refuse
    __setitem__ = __delitem__ = __iadd__ = __imul__ = refuse


# Two texts that every call refuses ahead of all else, and how.
CUT = "cut 0 0 0 1 1 1\n"
RIGHT_PART = "part a 2 2 2 x\n" + CUT * 2
REFUSED = (
    (TOO_LONG, "", [-2]),
    (RIGHT_PART, TOO_LONG, [-2]),
    (TOO_LONG, TOO_LONG, [-2]),
    ("", TOO_LONG, [-2]),
    (TOO_LONG, "x", [-2]),
    ("a" * MOST, "a" * MOST, [-6, 0, 1]),
    (RIGHT_PART, "a" * MOST, [-6, 0, 17]),
    ("", "", [-6, 0, 3]),
    ("", "x", [-6, 0, 3]),
    (CUT, "", [-6, 0, 3]),
    (RIGHT_PART[:-1], "tool 9 u 1\n", [-6, 2, 1]),
    (RIGHT_PART + "cut 2 0 0 1 1 1\n", "", [-6, 3, 4]),
    (RIGHT_PART + RIGHT_PART, "", [-6, 3, 3]),
    ("part a 2 2 2 x\n" + CUT * 65, "", [-6, 65, 2]),
    (RIGHT_PART, "tool 0 u 1", [-6, 0, 17]),
    (RIGHT_PART, "tool 1 u 1\ntool 0 ru 17\n", [-6, 1, 17]),
    (RIGHT_PART, "tool 1 u 1\ntool 2 u 1\n", [-6, 1, 19]),
    (RIGHT_PART, "tool 1 u 1\ntool 0 d 1\ntool 1 u 1\n", [-6, 2, 20]),
    ("part a 2 2 2 x\n", "tool 0 u 1\n", [-6, 0, 19]),
)


class CallCase(unittest.TestCase):
    def alike(self, found, answer, about=None):
        self.assertEqual(found, answer, about)
        self.assertIs(type(found), list, about)
        self.assertEqual({type(number) for number in found}, {int}, about)

    def nothing_kept(self, call, *given):
        """The lists stay as they were, and the same comes again in a new list."""
        first = call(*given)
        answer = list(first)
        guarded = [Kept(value) if isinstance(value, list) else value for value in given]
        before = [list(value) if isinstance(value, list) else value for value in given]
        second = call(*guarded)
        self.assertEqual(guarded, before)
        self.assertEqual(list(given), before)
        self.assertIsNot(first, second)
        first.append(77)
        first[0] = 77
        self.alike(second, answer)
        self.alike(call(*given), answer)
        self.assertEqual(list(given), before)

    def in_good_time(self, call, *given):
        start = time.process_time()
        answer = call(*given)
        self.assertLess(time.process_time() - start, 3)
        return answer


SIZE = rb"([1-9]|1[0-6])"
NUMBER = rb"(0|[1-9][0-9]*)"
PART_LINE = re.compile(rb"part [a-z0-9]{1,12} " + b" ".join([SIZE] * 3) + rb" [xyz]\n")
CUT_LINE = re.compile(rb"cut " + b" ".join([NUMBER] * 3 + [SIZE] * 3) + rb"\n")
TOOL_LINE = re.compile(rb"tool " + NUMBER + rb" (?=[a-z])(r?l?b?f?u?d?) " + SIZE + rb"\n")


def lines_of(text):
    return re.findall(rb"[^\n]*\n|[^\n]+", text)


def expected_part(text):
    """The part's fault, or how many cuts it has, by the table of lines read another way."""
    lines = lines_of(text)
    if not lines:
        return (0, 3), 0
    block = None
    for number, line in enumerate(lines):
        part = PART_LINE.fullmatch(line)
        cut = CUT_LINE.fullmatch(line)
        if not part and not cut:
            return (number, 1), 0
        if (number == 0) != bool(part):
            return (number, 3), 0
        if part:
            block = [int(size) for size in part.groups()]
            continue
        x, y, z, w, d, h = (int(told) for told in cut.groups())
        if x + w > block[0] or y + d > block[1] or z + h > block[2]:
            return (number, 4), 0
        if number > 64:
            return (number, 2), 0
    return None, len(lines) - 1


def expected_judge(part, tools):
    fault, cuts = expected_part(part)
    if fault:
        return [-6, *fault]
    seen = []
    for number, line in enumerate(lines_of(tools)):
        tool = TOOL_LINE.fullmatch(line)
        if not tool:
            return [-6, number, 17]
        if int(tool.group(1)) >= cuts:
            return [-6, number, 19]
        if tool.group(1) in seen:
            return [-6, number, 20]
        seen.append(tool.group(1))
    return [0]


def box_cells(x, y, z, w, d, h):
    return {(i, j, k) for i in range(x, x + w) for j in range(y, y + d) for k in range(z, z + h)}


class Reading:
    """The document's words, cell by cell, over two texts that are right."""

    def __init__(self, part, tools):
        lines = [line.split() for line in part.splitlines()]
        self.cells = box_cells(0, 0, 0, *(int(word) for word in lines[0][2:5]))
        self.boxes = [box_cells(*(int(word) for word in words[1:])) for words in lines[1:]]
        self.tools = {k: (WAY_SIGNS, 16) for k in range(len(self.boxes))}
        for line in tools.splitlines():
            words = line.split()
            self.tools[int(words[1])] = (words[2], int(words[3]))

    def farther_out(self, cell, way):
        """The cells from this one on, without it, up to the block's face."""
        step = STEPS[way]
        found = []
        place = tuple(at + one for at, one in zip(cell, step))
        while place in self.cells:
            found.append(place)
            place = tuple(at + one for at, one in zip(place, step))
        return found

    def is_reached(self, k, way, made):
        box = self.boxes[k]
        signs_told, depth = self.tools[k]
        if WAY_SIGNS[way] not in signs_told:
            return False
        if max(len(self.farther_out(cell, way)) + 1 for cell in box) > depth:
            return False
        wood = self.cells.difference(*(self.boxes[number] for number in made))
        return all(other in box or other not in wood
                   for cell in box & wood for other in self.farther_out(cell, way))

    def ways_reached(self, k, made):
        others = {number for number in made if number < len(self.boxes) and number != k}
        return [way for way in range(6) if self.is_reached(k, way, others)]

    def can_be_made(self, k, made):
        return any(self.is_reached(k, way, made) for way in range(6))

    def ready(self, made, barred=()):
        return [k for k in range(len(self.boxes))
                if k not in made and k not in barred and self.can_be_made(k, made)]

    def order(self):
        made = []
        while self.ready(made):
            made.append(self.ready(made)[0])
        return made

    def ways(self, k):
        """The ways of cut k at its turn; None if it's never made."""
        made = self.order()
        return self.ways_reached(k, made[:made.index(k)]) if k in made else None

    def round_of(self, k):
        made = []
        number = 1
        while k not in self.ready(made):
            if not self.ready(made):
                return 0
            made = made + self.ready(made)
            number += 1
        return number

    def made_by_chance(self, source, barred=()):
        """Whichever can be made is made, as long as any can be."""
        made = []
        found = self.ready(made, barred)
        while found:
            made.append(source.choice(found))
            found = self.ready(made, barred)
        return made

    def waits(self, a, b, source):
        """Of two cuts that aren't alike: whether b is never made where a may not be; None if b is never made."""
        if b not in self.made_by_chance(source):
            return None
        return b not in self.made_by_chance(source, (a,))


def draw(source, block=None, most_cuts=14):
    """A part's text and its tools', by chance: few cells, so that cuts stand in one another's way."""
    if block is None:
        block = [source.randint(1, 6), source.randint(1, 3), source.randint(1, 2)]
        source.shuffle(block)
    if source.random() < 0.5:
        cuts = [draw_box(source, block) for number in range(source.randint(0, most_cuts))]
    else:
        cells = sorted(box_cells(0, 0, 0, *block))
        cuts = [cell + (1, 1, 1) for cell in source.sample(cells, min(len(cells), most_cuts))]
    # With few ways for all of them cuts lie behind one another in long rows.
    favoured = source.sample(WAY_SIGNS, source.choice((1, 2, 2, 3, 6)))
    depths = source.choice(((16,), (16,), (1, 2, 2, 3, 4, 16)))
    told = source.choice((0.6, 0.9, 1))
    rows = [(k, draw_ways(source, favoured), source.choice(depths))
            for k in range(len(cuts)) if source.random() < told]
    source.shuffle(rows)
    return part_text(block, cuts), tool_text(rows)


def draw_box(source, block):
    places = [source.randrange(size) for size in block]
    sizes = [min(source.choice((1, 1, 1, 2, 2, 3)), size - place) for size, place in zip(block, places)]
    return places + sizes


def row_of_cells(places):
    """Cells of a row of five in the order of these places, to which the tools come from the right alone."""
    part = part_text((5, 1, 1), [(x, 0, 0, 1, 1, 1) for x in places])
    return part, tool_text([(k, "r", 16) for k in range(len(places))])


def snake():
    """64 cuts in the largest block, each of which but the last waits for the one behind it."""
    cuts = []
    rows = []
    for number in range(63, -1, -1):
        row, along = divmod(63 - number, 16)
        cuts.insert(0, (15 - along if row % 2 == 0 else along, row, 0, 1, 1, 16))
        sign = "rl"[row % 2]
        rows.append((number, "f" if row and not along else sign, 16))
    return part_text((16, 16, 16), cuts), tool_text(rows)


def draw_ways(source, favoured):
    told = source.sample(favoured, min(len(favoured), source.choice((1, 1, 1, 2, 3, 6))))
    return "".join(sign for sign in WAY_SIGNS if sign in told)


def drawn(seed, times):
    source = random.Random(seed)
    return [draw(source) for number in range(times)]
