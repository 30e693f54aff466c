"""The calls on a part's text and a tool text, both handed in as lists of bytes."""

TOO_LONG = -2
NEVER_MADE = -3
UNKNOWN_CUT = -4
FAULTY = -6
ALIKE = -8

# Why a line is wrong.
RIGHT = 0
NOT_FORMED = 1
TOO_MANY = 2
CANNOT_STAND = 3
BEYOND = 4
NO_SUCH_CUT = 3
TOLD_ALREADY = 4

# Added to why, it tells a fault of the tools from one of the part.
TOOLS_MARK = 16

MOST_BYTES = 16384
MOST_CUTS = 64
MOST_CELLS = 16
LONGEST_NAME = 12

LINE_FEED = 10
BLANK = 32
WAY_SIGNS = "rlbfud"

ALL_WAYS = (0, 1, 2, 3, 4, 5)
# Of each axis the two others.
CROSSING_AXES = ((1, 2), (0, 2), (0, 1))

NO_NUMBER = -1
# Beyond every bound there is, so that a number of thousands of digits needs no more than this.
HUGE = 1000


class Plan:
    """What the two texts of a call tell, or the refusal they are met with."""

    def __init__(self):
        self.refusal = []
        self.block = []
        self.cuts = []
        self.tools = {}


def judge(part, tools):
    """[0] if both texts are right, or else the refusal."""
    return read_texts(part, tools).refusal or [0]


def reach(k, part, tools, made):
    """How many ways there are from which cut k can be reached when those made are, then they, or the refusal."""
    plan = read_call([k], part, tools)
    if plan.refusal:
        return plan.refusal
    others = [number for number in sorted(set(made)) if number < len(plan.cuts) and number != k]
    return counted(ways_to(k, plan, wood_left(plan, others)))


def order(part, tools):
    """How many cuts are made in the order, then they, or the refusal."""
    plan = read_texts(part, tools)
    return plan.refusal or counted(order_of(list(range(len(plan.cuts))), plan))


def round_of(k, part, tools):
    """Cut k's round, 0 if it's never made, or the refusal."""
    plan = read_call([k], part, tools)
    return plan.refusal or [round_in(k, plan)]


def waits(a, b, part, tools):
    """[1] if cut b waits for cut a, [0] if it doesn't, or the refusal."""
    plan = read_call([a, b], part, tools)
    if plan.refusal:
        return plan.refusal
    if a == b:
        return [ALIKE]
    numbers = list(range(len(plan.cuts)))
    if b not in order_of(numbers, plan):
        return [NEVER_MADE]
    without = order_of([number for number in numbers if number != a], plan)
    return [0] if b in without else [1]


def ways(k, part, tools):
    """How many ways there are from which cut k can be reached at its turn in the order, then they, or the refusal."""
    plan = read_call([k], part, tools)
    if plan.refusal:
        return plan.refusal
    made = order_of(list(range(len(plan.cuts))), plan)
    if k not in made:
        return [NEVER_MADE]
    return counted(ways_to(k, plan, wood_left(plan, made[:made.index(k)])))


def counted(numbers):
    """How many numbers there are, then they."""
    return [len(numbers)] + numbers


def read_call(asked, part, tools):
    """The plan of both texts; it is refused too if one of the cuts asked about isn't there."""
    plan = read_texts(part, tools)
    if not plan.refusal and max(asked) >= len(plan.cuts):
        plan.refusal = [UNKNOWN_CUT]
    return plan


def read_texts(part, tools):
    """The plan of both texts; its refusal is empty if they are right."""
    plan = Plan()
    if len(part) > MOST_BYTES or len(tools) > MOST_BYTES:
        plan.refusal = [TOO_LONG]
        return plan
    fault = read_part(part, plan)
    if fault:
        plan.refusal = [FAULTY, fault[0], fault[1]]
        return plan
    fault = read_tools(tools, plan)
    if fault:
        plan.refusal = [FAULTY, fault[0], fault[1] + TOOLS_MARK]
    return plan


def read_part(text, plan):
    """Fill in the block and the cuts; the fault's line and why, or an empty list."""
    lines = lines_of(text)
    if not lines:
        return [0, CANNOT_STAND]
    for number, words in enumerate(lines):
        why = read_part_line(words, plan)
        if why != RIGHT:
            return [number, why]
    return []


def read_part_line(words, plan):
    """Fill in what one line of the part tells; why it is wrong, or RIGHT."""
    block = block_told(words)
    cut = cut_told(words)
    if not block and not cut:
        return NOT_FORMED
    if (block and plan.block) or (cut and not plan.block):
        return CANNOT_STAND
    if block:
        plan.block = block
        return RIGHT
    if goes_beyond(cut, plan.block):
        return BEYOND
    if len(plan.cuts) == MOST_CUTS:
        return TOO_MANY
    plan.cuts.append(cut)
    return RIGHT


def read_tools(text, plan):
    """Fill in the tools of the plan's cuts; the fault's line and why, or an empty list."""
    for number, words in enumerate(lines_of(text)):
        why = read_tool_line(words, plan)
        if why != RIGHT:
            return [number, why]
    return []


def read_tool_line(words, plan):
    """Fill in what one line of the tools tells; why it is wrong, or RIGHT."""
    tool = tool_told(words)
    if not tool:
        return NOT_FORMED
    cut_number = tool[0]
    if cut_number >= len(plan.cuts):
        return NO_SUCH_CUT
    if cut_number in plan.tools:
        return TOLD_ALREADY
    plan.tools[cut_number] = (tool[1], tool[2])
    return RIGHT


def block_told(words):
    """The block's w, d, h if the line is a formed part line, or else an empty list."""
    if len(words) != 6 or words[0] != signs_of("part") or not is_name(words[1]):
        return []
    if words[5] not in (signs_of("x"), signs_of("y"), signs_of("z")):
        return []
    sizes = [number_of(word) for word in words[2:5]]
    return sizes if all([is_size(size) for size in sizes]) else []


def cut_told(words):
    """The cut's x, y, z, w, d, h if the line is a formed cut line, or else an empty list."""
    if len(words) != 7 or words[0] != signs_of("cut"):
        return []
    numbers = [number_of(word) for word in words[1:]]
    if NO_NUMBER in numbers or not all([is_size(size) for size in numbers[3:]]):
        return []
    return numbers


def tool_told(words):
    """The cut's number, its ways and how far its tool reaches, or an empty tuple if it isn't formed."""
    if len(words) != 4 or words[0] != signs_of("tool"):
        return ()
    cut_number = number_of(words[1])
    allowed = ways_of(words[2])
    depth = number_of(words[3])
    if cut_number == NO_NUMBER or not allowed or not is_size(depth):
        return ()
    return (cut_number, allowed, depth)


def goes_beyond(cut, block):
    """Whether the cut has cells outside the block on some axis."""
    return any([cut[axis] + cut[axis + 3] > block[axis] for axis in range(3)])


def lines_of(text):
    """The words of each line."""
    pieces = split_at(text, LINE_FEED)
    rest = pieces.pop()
    lines = [split_at(piece, BLANK) for piece in pieces]
    if rest:
        # Without its line feed no line is formed, whatever it says: no words stand for it.
        lines.append([])
    return lines


def split_at(signs, mark):
    """The pieces between the marks, the one behind the last mark too."""
    pieces = []
    piece = []
    for sign in signs:
        if sign == mark:
            pieces.append(piece)
            piece = []
        else:
            piece.append(sign)
    pieces.append(piece)
    return pieces


def signs_of(word):
    """The bytes of a written word."""
    return [ord(sign) for sign in word]


def is_digit(sign):
    """Whether the byte is one of 0 to 9."""
    return ord("0") <= sign <= ord("9")


def is_letter(sign):
    """Whether the byte is one of a to z."""
    return ord("a") <= sign <= ord("z")


def is_name(word):
    """Whether the word is a part's name."""
    if len(word) < 1 or len(word) > LONGEST_NAME:
        return False
    return all([is_letter(sign) or is_digit(sign) for sign in word])


def is_size(number):
    """Whether the number can be a side of a box, or a tool's depth."""
    return 1 <= number <= MOST_CELLS


def number_of(word):
    """The number the word stands for, HUGE at the most, or NO_NUMBER if it is none."""
    if not word or not all([is_digit(sign) for sign in word]):
        return NO_NUMBER
    if len(word) > 1 and word[0] == ord("0"):
        return NO_NUMBER
    value = 0
    for sign in word:
        value = min(value * 10 + sign - ord("0"), HUGE)
    return value


def ways_of(word):
    """The ways the word tells, rising, or an empty list if it isn't formed."""
    signs = signs_of(WAY_SIGNS)
    told = [signs.index(sign) for sign in word if sign in signs]
    if len(told) != len(word) or told != sorted(set(told)):
        return []
    return told


def wood_left(plan, made):
    """The wood of the block when the cuts made are.

    For each axis it is the layers across it, one behind the other. A layer is a number with a bit for each of its
    cells, so that the cells of one line along the axis have the same bit in all layers.
    """
    block = [0, 0, 0] + plan.block
    wood = [[lines_through(block, axis)] * plan.block[axis] for axis in range(3)]
    for number in made:
        take_away(wood, plan.cuts[number])
    return wood


def take_away(wood, cut):
    """Take the cut's cells out of the wood."""
    for axis in range(3):
        layers = wood[axis]
        gone = lines_through(cut, axis)
        for place in range(cut[axis], cut[axis] + cut[axis + 3]):
            layers[place] = layers[place] & ~gone


def lines_through(box, axis):
    """The bits of the lines of cells along the axis that go through the box."""
    inner = CROSSING_AXES[axis][0]
    outer = CROSSING_AXES[axis][1]
    row = ((1 << box[inner + 3]) - 1) << box[inner]
    bits = 0
    for place in range(box[outer], box[outer] + box[outer + 3]):
        bits = bits | (row << (place * MOST_CELLS))
    return bits


def ways_to(k, plan, wood):
    """The ways from which cut k can be reached, rising; cut k itself isn't made."""
    cut = plan.cuts[k]
    tool = plan.tools.get(k, (ALL_WAYS, MOST_CELLS))
    near = [way for way in tool[0] if depth_from(way, cut, plan.block) <= tool[1]]
    return [way for way in near if is_clear(way, cut, wood)]


def depth_from(way, cut, block):
    """How many cells there are from the block's face to the cut's farthest cell."""
    axis = way // 2
    return block[axis] - cut[axis] if way % 2 == 0 else cut[axis] + cut[axis + 3]


def is_clear(way, cut, wood):
    """Whether no wood of the cut has wood beyond the cut farther out that way."""
    axis = way // 2
    layers = wood[axis]
    start = cut[axis]
    end = start + cut[axis + 3]
    beyond = layers[end:] if way % 2 == 0 else layers[:start]
    # Cells farther out in the cut itself don't matter, so a line is in the way just if it has wood in both.
    blocked = lines_through(cut, axis) & lines_with_wood(layers[start:end]) & lines_with_wood(beyond)
    return blocked == 0


def lines_with_wood(layers):
    """The bits of the lines that have wood in some of the layers."""
    bits = 0
    for layer in layers:
        bits = bits | layer
    return bits


def order_of(allowed, plan):
    """The order of the cuts that are made where only those allowed, told rising, may be."""
    wood = wood_left(plan, [])
    made = []
    number = least_ready(allowed, made, plan, wood)
    while number != NO_NUMBER:
        made.append(number)
        take_away(wood, plan.cuts[number])
        number = least_ready(allowed, made, plan, wood)
    return made


def least_ready(allowed, made, plan, wood):
    """The least number of a cut that is allowed, isn't made and can be, or NO_NUMBER."""
    for number in allowed:
        if number not in made and ways_to(number, plan, wood):
            return number
    return NO_NUMBER


def round_in(k, plan):
    """The round of cut k, or 0 if it's never made."""
    wood = wood_left(plan, [])
    left = list(range(len(plan.cuts)))
    ready = left
    number = 0
    while ready:
        number = number + 1
        # All of a round are looked for ahead of taking any of them away: none may free another of the same round.
        ready = [cut_number for cut_number in left if ways_to(cut_number, plan, wood)]
        if k in ready:
            return number
        for cut_number in ready:
            take_away(wood, plan.cuts[cut_number])
        left = [cut_number for cut_number in left if cut_number not in ready]
    return 0
