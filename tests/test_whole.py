"""Promises 1 to 5 over the whole program, and what the document says of all calls."""

import importlib.util
import random
import unittest

from cutreach import tools as program
from helper import (GREATEST, MOST, REFUSED, RIGHT_PART, CallCase, draw, drawn, expected_judge, signs)


def every_call(part, tools, k=0, other=1, made=(0, 2, 3)):
    """Each of the six calls: its name and what is handed in."""
    part = signs(part)
    tools = signs(tools)
    return [
        ("judge", (part, tools)),
        ("reach", (k, part, tools, list(made))),
        ("order", (part, tools)),
        ("round_of", (k, part, tools)),
        ("waits", (k, other, part, tools)),
        ("ways", (k, part, tools)),
    ]


def answer_of(name, given, module=program):
    return getattr(module, name)(*given)


def spoil(source, text):
    """The text with one thing wrong or changed, by chance: a byte, a line, or its end."""
    lines = text.splitlines(keepends=True)
    at = source.randrange(len(text) + 1)
    turn = source.randrange(6)
    if turn == 0:
        return text[:at] + source.choice("0123456789 \nxrludtp") + text[at + 1:]
    if turn == 1:
        return text[:at] + source.choice("0123456789 \nxrludtp") + text[at:]
    if turn == 2:
        return text[:at]
    if turn == 3 and lines:
        lines.insert(source.randrange(len(lines) + 1), source.choice(lines))
    if turn == 4 and lines:
        lines.pop(source.randrange(len(lines)))
    if turn == 5:
        source.shuffle(lines)
    return "".join(lines)


class Texts(CallCase):
    def test_right_or_one_fault_and_alike_in_all_calls(self):
        source = random.Random(101)
        seen = {}
        for part, tools in drawn(102, 1500):
            if source.random() < 0.4:
                part = spoil(source, part)
            else:
                tools = spoil(source, tools)
            judged = expected_judge(part.encode(), tools.encode())
            seen[judged[-1]] = seen.get(judged[-1], 0) + 1
            for name, given in every_call(part, tools):
                found = answer_of(name, given)
                if name == "judge" or judged != [0]:
                    self.alike(found, judged, (name, part, tools))
                else:
                    self.assertNotIn(found[0], (-2, -6), (name, part, tools))
        for why in (0, 1, 3, 4, 17, 19, 20):
            self.assertGreater(seen[why], 10, why)

    def test_refusals_are_alike(self):
        for part, tools, answer in REFUSED:
            for k, other in ((0, 1), (1, 1), (99, 99), (GREATEST, 0)):
                for name, given in every_call(part, tools, k, other):
                    self.alike(answer_of(name, given), answer, (name, part[:200], tools[:200]))

    def test_lengths(self):
        cut_tools = "tool 0 u 1\n"
        for size, part_answer, tools_answer in (
            (MOST - 1, [-6, 3, 1], [-6, 1, 17]),
            (MOST, [-6, 3, 1], [-6, 1, 17]),
            (MOST + 1, [-2], [-2]),
            (16500, [-2], [-2]),
        ):
            part = RIGHT_PART + "\n" * (size - len(RIGHT_PART))
            tools = cut_tools + "\n" * (size - len(cut_tools))
            self.assertEqual((len(part), len(tools)), (size, size))
            for k in (0, GREATEST):
                for name, given in every_call(part, cut_tools, k):
                    self.alike(self.in_good_time(answer_of, name, given), part_answer, (name, size))
                for name, given in every_call(RIGHT_PART, tools, k):
                    self.alike(self.in_good_time(answer_of, name, given), tools_answer, (name, size))
                for name, given in every_call(part, tools, k):
                    self.alike(self.in_good_time(answer_of, name, given), part_answer, (name, size))

    def test_any_bytes(self):
        source = random.Random(103)
        for number in range(300):
            part = bytes(source.randrange(256) for sign in range(source.randrange(40)))
            tools = bytes(source.randrange(256) for sign in range(source.randrange(40)))
            for given_part, given_tools in ((part, tools), (RIGHT_PART.encode(), tools)):
                judged = expected_judge(given_part, given_tools)
                for name, given in every_call(given_part, given_tools):
                    found = answer_of(name, given)
                    if judged != [0] or name == "judge":
                        self.alike(found, judged, (name, part, tools))


class Answers(CallCase):
    LISTED = ("reach", "order", "ways")

    def check(self, name, found, about):
        self.assertIs(type(found), list, about)
        for number in found:
            self.assertIs(type(number), int, about)
        if found[0] == -6:
            self.assertEqual(len(found), 3, about)
        elif found[0] < 0 or name not in self.LISTED:
            self.assertEqual(len(found), 1, about)
        else:
            self.assertEqual(len(found), 1 + found[0], about)
            self.assertEqual(len(set(found[1:])), found[0], about)
        refusals = {"judge": (), "order": (), "reach": (-4,), "round_of": (-4,), "waits": (-4, -8, -3),
                    "ways": (-4, -3)}
        if found[0] < 0:
            self.assertIn(found[0], (-2, -6) + refusals[name], about)

    def test_as_long_as_the_first_number_says(self):
        source = random.Random(104)
        for part, tools in drawn(105, 400):
            if source.random() < 0.2:
                tools = spoil(source, tools)
            for k, other in ((0, 1), (3, 0), (1, 1), (20, 0), (GREATEST, GREATEST)):
                for name, given in every_call(part, tools, k, other):
                    self.check(name, answer_of(name, given), (name, k, other, part, tools))


class Promises(CallCase):
    """Two to five, of the calls alone, over drawn parts small and large."""

    def parts(self, seed, times):
        source = random.Random(seed)
        texts = [draw(source) for number in range(times)]
        texts += [draw(source, [source.randint(8, 16) for axis in range(3)], 20) for number in range(times // 10)]
        return [(signs(part), signs(tools), part.count("cut")) for part, tools in texts]

    def ready(self, part, tools, cuts, made):
        return [k for k in range(cuts) if k not in made and program.reach(k, part, tools, made) != [0]]

    def test_the_same_are_made_in_whatever_order(self):
        source = random.Random(106)
        for part, tools, cuts in self.parts(107, 120):
            made = []
            found = self.ready(part, tools, cuts, made)
            while found:
                made.append(source.choice(found))
                found = self.ready(part, tools, cuts, made)
            self.assertEqual(sorted(made), sorted(program.order(part, tools)[1:]))

    def test_reached_still_when_more_is_made(self):
        source = random.Random(108)
        for part, tools, cuts in self.parts(109, 120):
            some = [k for k in range(cuts) if source.random() < 0.4]
            more = some + [k for k in range(cuts) if source.random() < 0.4]
            for k in range(cuts):
                before = program.reach(k, part, tools, some)[1:]
                self.assertLessEqual(set(before), set(program.reach(k, part, tools, more)[1:]))

    def test_order_rounds_and_ways_agree(self):
        for part, tools, cuts in self.parts(110, 120):
            made = program.order(part, tools)[1:]
            rounds = [program.round_of(k, part, tools)[0] for k in range(cuts)]
            for k in range(cuts):
                self.assertEqual(rounds[k] > 0, k in made)
                self.assertEqual(program.ways(k, part, tools) == [-3], k not in made)
            for at, k in enumerate(made):
                self.alike(program.ways(k, part, tools), program.reach(k, part, tools, made[:at]))
                earlier = [other for other in made if rounds[other] < rounds[k]]
                self.assertNotEqual(program.reach(k, part, tools, earlier), [0])
                if rounds[k] > 1:
                    earlier = [other for other in made if rounds[other] < rounds[k] - 1]
                    self.assertEqual(program.reach(k, part, tools, earlier), [0])

    def test_waiting(self):
        for part, tools, cuts in self.parts(111, 60):
            made = program.order(part, tools)[1:]
            rounds = [program.round_of(k, part, tools)[0] for k in range(cuts)]
            waiting = [(a, b) for a in made for b in made if a != b and program.waits(a, b, part, tools) == [1]]
            for a, b in waiting:
                self.assertNotIn((b, a), waiting)
                self.assertLess(rounds[a], rounds[b])
                for c in made:
                    if (b, c) in waiting:
                        self.assertIn((a, c), waiting)
            for a in range(cuts):
                for b in range(cuts):
                    if a != b and b not in made:
                        self.alike(program.waits(a, b, part, tools), [-3])
                    elif a != b and a not in made:
                        self.alike(program.waits(a, b, part, tools), [0])


class NothingKept(CallCase):
    def cases(self):
        source = random.Random(112)
        found = []
        for part, tools in drawn(113, 25) + [(part, tools) for part, tools, answer in REFUSED]:
            found += every_call(part, tools)
            found += every_call(part, tools, 2, 0, [5, 1, 5, GREATEST])
        source.shuffle(found)
        return found

    def test_in_any_order_as_each_by_itself(self):
        cases = self.cases()
        alone = [answer_of(name, given, self.fresh()) for name, given in cases]
        self.assertEqual([answer_of(name, given) for name, given in cases], alone)
        self.assertEqual([answer_of(name, given) for name, given in reversed(cases)], alone[::-1])

    def fresh(self):
        spec = importlib.util.spec_from_file_location("fresh_tools", program.__file__)
        module = importlib.util.module_from_spec(spec)
        spec.loader.exec_module(module)
        return module

    def test_lists_stay_and_the_same_comes_again(self):
        for name, given in self.cases():
            self.nothing_kept(getattr(program, name), *given)

    def test_one_list_handed_in_several_times(self):
        given = signs(RIGHT_PART)
        for name in ("judge", "order"):
            self.nothing_kept(getattr(program, name), given, given)
        self.nothing_kept(program.reach, 0, given, [], given)
        self.nothing_kept(program.reach, 0, given, given, given)


if __name__ == "__main__":
    unittest.main()
