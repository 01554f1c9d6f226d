"""[33]: programs, their steps and their texts."""

import re
import unittest
from math import gcd
from random import Random

from nearestheld.errors import NearError, NoLine
from nearestheld.forms import is_program
from nearestheld.programs import needed_steps, put_in, read_program, shortened, show_program
from things import check_wrong, picture

PARTS = {"add": 2, "take": 2, "times": 2, "by": 2, "fused": 3, "root": 1, "opposite": 1, "size": 1, "least": 2,
         "greatest": 2, "if": 4}
INTEGER = r"(?:0|-?[1-9][0-9]*)"
HALF = ("told", (1, 2))
THIRD = (1, (("input", 0), ("told", (3, 1)), ("by", 0, 1), ("add", 0, 1), ("times", 2, 1)))
EACH_WORD = (2, (("input", 0), ("input", 1), ("told", (-7, 3)), ("add", 0, 1), ("take", 3, 2), ("times", 4, 4), ("by", 5, 0),
                 ("fused", 6, 1, 2), ("root", 7), ("opposite", 8), ("size", 9), ("least", 10, 1), ("greatest", 11, 0),
                 ("if", 12, 11, 10, 9)))


def drawn(seed):
    """A PROGRAM of any steps, always the same one of a seed."""
    random = Random(seed)
    many = random.randint(0, 4)
    steps = []
    for at in range(random.randint(1, 30)):
        word = random.choice(list(PARTS) + ["input"] * 3 + ["told"] * 3)
        if word == "input" and many > 0:
            steps.append(("input", random.randrange(many)))
        elif word in ("input", "told") or at == 0:
            n, d = random.choice((-1, 1)) * random.randrange(10 ** random.randint(1, 20)), random.randint(1, 10 ** random.randint(1, 9))
            steps.append(("told", (n // gcd(n, d), d // gcd(n, d))))
        else:
            steps.append((word,) + tuple(random.choices(range(at), k=PARTS[word])))
    return (many, tuple(steps))


def tree_of(program, at=-1):
    """What a step means: its word, and what its parts mean."""
    step = program[1][at]
    if step[0] in ("input", "told"):
        return step
    return step[:1] + tuple([tree_of(program, part) for part in step[1:]])


def with_inputs(tree, trees):
    """A tree in which each input is one of trees."""
    if tree[0] == "input":
        return trees[tree[1]]
    if tree[0] == "told":
        return tree
    return tree[:1] + tuple([with_inputs(part, trees) for part in tree[1:]])


def small(seed):
    """A drawn PROGRAM that is not too long for trees."""
    many, steps = drawn(seed)
    return (many, steps[:7])


class Needed(unittest.TestCase):
    def test_against_going_back_from_the_result(self):
        for seed in range(300):
            program = drawn(seed)
            steps = program[1]
            needed, left = set(), [len(steps) - 1]
            while left:
                at = left.pop()
                needed.add(at)
                left += [part for part in steps[at][1:] if steps[at][0] not in ("input", "told") and part not in needed]
            told = needed_steps(program)
            self.assertEqual(told, tuple(sorted(needed)))
            self.assertIs(told.__class__, tuple)
            for at in told:
                self.assertIs(at.__class__, int)

    def test_each_kind(self):
        for steps, needed in (
            ((HALF,), (0,)), ((HALF, HALF), (1,)), ((HALF, HALF, ("add", 0, 0)), (0, 2)), ((HALF, HALF, ("add", 0, 1)), (0, 1, 2)),
            ((HALF, ("root", 0), HALF), (2,)), ((HALF, ("root", 0), ("size", 1), ("opposite", 1)), (0, 1, 3)),
            ((HALF,) * 5 + (("if", 0, 1, 2, 3),), (0, 1, 2, 3, 5)), ((HALF,) * 5 + (("if", 4, 4, 4, 1),), (1, 4, 5)),
            ((HALF,) * 4 + (("fused", 3, 1, 0),), (0, 1, 3, 4)), ((HALF, HALF, ("if", 0, 0, 0, 1), HALF), (3,)),
        ):
            self.assertEqual(needed_steps((0, steps)), needed)
        self.assertEqual(needed_steps((3, (("input", 2), ("input", 1)))), (1,))
        # The index of an input, and the integers of a fraction, are no indexes of steps.
        self.assertEqual(needed_steps((3, (HALF, HALF, HALF, ("input", 1), ("told", (1, 2))))), (4,))
        self.assertEqual(needed_steps((3, (HALF, HALF, HALF, ("input", 1)))), (3,))
        self.assertEqual(needed_steps(EACH_WORD), tuple(range(14)))

    def test_shortened(self):
        for seed in range(300):
            program = drawn(seed)
            told = shortened(program)
            self.assertIs(is_program(told), True)
            needed = needed_steps(program)
            self.assertEqual([told[0], len(told[1])], [program[0], len(needed)])
            for at, old in enumerate(needed):
                step, other = told[1][at], program[1][old]
                self.assertEqual(step[0], other[0])
                if step[0] in ("input", "told"):
                    self.assertEqual(step, other)
                else:
                    self.assertEqual([needed[part] for part in step[1:]], list(other[1:]))
            self.assertEqual(needed_steps(told), tuple(range(len(needed))))
            self.assertEqual(shortened(told), told)

    def test_shortened_ones_that_are_known(self):
        self.assertEqual(shortened(THIRD), (1, THIRD[1][:3] + (("times", 2, 1),)))
        self.assertEqual(shortened((5, (HALF, ("input", 4)))), (5, (("input", 4),)))
        self.assertEqual(shortened((0, (HALF,))), (0, (HALF,)))
        self.assertEqual(shortened((0, (HALF,) * 5 + (("if", 4, 2, 4, 1),))), (0, (HALF,) * 3 + (("if", 2, 1, 2, 0),)))
        self.assertEqual(shortened(EACH_WORD), EACH_WORD)


class PutIn(unittest.TestCase):
    def test_what_it_means(self):
        seen = 0
        for seed in range(400):
            program = small(seed)
            inner = [small(at) for at in range(seed * 5 + 1000, seed * 5 + 1000 + program[0])]
            most = max([many for many, _ in inner], default=0)
            inner = tuple([(most, steps) for _, steps in inner])
            if program[0] == 0:
                continue
            seen += 1
            told = put_in(program, inner)
            self.assertIs(is_program(told), True)
            self.assertEqual(told[0], most)
            expected = with_inputs(tree_of(program), [tree_of(one) for one in inner])
            if program[1][-1][0] == "input":
                expected = ("least", expected, expected)
            self.assertEqual(tree_of(told), expected)
            self.check_steps(program, inner, told[1])
        self.assertGreater(seen, 200)

    def check_steps(self, program, inner, told):
        """The steps stand one behind the other, as the document tells."""
        words = [step[0] for _, steps in inner for step in steps]
        words += [step[0] for step in program[1] if step[0] != "input"]
        words += ["least"] if program[1][-1][0] == "input" else []
        self.assertEqual([step[0] for step in told], words)
        start = 0
        for _, steps in inner:
            for step, other in zip(steps, told[start:]):
                shifted = step if step[0] in ("input", "told") else step[:1] + tuple([part + start for part in step[1:]])
                self.assertEqual(other, shifted)
            start += len(steps)

    def test_known_ones(self):
        twice = (1, (("input", 0), ("add", 0, 0)))
        same = (1, (("input", 0),))
        self.assertEqual(put_in(twice, (twice,)), (1, (("input", 0), ("add", 0, 0), ("add", 1, 1))))
        self.assertEqual(put_in(same, (same,)), (1, (("input", 0), ("least", 0, 0))))
        self.assertEqual(put_in(same, (twice,)), (1, (("input", 0), ("add", 0, 0), ("least", 1, 1))))
        self.assertEqual(put_in((2, (("input", 1),)), (twice, same)), (1, (("input", 0), ("add", 0, 0), ("input", 0), ("least", 2, 2))))
        self.assertEqual(put_in((1, (HALF,)), (same,)), (1, (("input", 0), HALF)))
        take = (2, (("input", 1), HALF, ("input", 0), ("take", 0, 2), ("if", 1, 3, 0, 2)))
        self.assertEqual(put_in(take, ((0, (HALF, ("root", 0))), (0, (("told", (3, 1)),)))),
                         (0, (HALF, ("root", 0), ("told", (3, 1)), HALF, ("take", 2, 1), ("if", 3, 4, 2, 1))))

    def test_the_same_program_at_several_places(self):
        plus = (2, (("input", 0), ("input", 1), ("add", 0, 1)))
        square = (3, (("input", 2), ("times", 0, 0)))
        told = put_in(plus, (square, square))
        self.assertEqual(told, (3, square[1] + (("input", 2), ("times", 2, 2), ("add", 1, 3))))
        self.assertEqual(put_in(plus, (plus, plus)), (2, plus[1] + (("input", 0), ("input", 1), ("add", 3, 4), ("add", 2, 5))))

    def test_an_input_that_is_named_twice_or_never(self):
        program = (3, (("input", 1), ("input", 1), ("take", 0, 1)))
        inner = tuple([(0, (("told", (n, 1)),)) for n in (5, 6, 7)])
        self.assertEqual(put_in(program, inner), (0, tuple([one[1][0] for one in inner]) + (("take", 1, 1),)))

    def test_what_is_handed_in_stays(self):
        inner = (drawn(5), drawn(5))
        program = (2, EACH_WORD[1])
        before = picture([program, inner])
        self.assertEqual(put_in(program, inner), put_in(program, inner))
        self.assertEqual(picture([program, inner]), before)


def bad_line(text):
    """The index of the first bad line of a text, None if there is none, by patterns and counting alone."""
    lines = text.split("\n")
    found = re.match(rf"\Ainputs ({INTEGER})\Z", lines[0])
    if not found or int(found.group(1)) < 0:
        return 0
    many = int(found.group(1))
    for at, line in enumerate(lines[1:]):
        word, *parts = line.split(" ")
        if word == "told":
            found = re.match(rf"\Atold ({INTEGER})/({INTEGER})\Z", line)
            good = found and int(found.group(2)) > 0 and gcd(int(found.group(1)), int(found.group(2))) == 1
        else:
            below = many if word == "input" else at
            good = len(parts) == (1 if word == "input" else PARTS.get(word)) and all([
                re.match(rf"\A{INTEGER}\Z", part) and 0 <= int(part) < below for part in parts])
        if not good:
            return at + 1
    return len(lines) if len(lines) < 2 else None


class Texts(unittest.TestCase):
    def check(self, text):
        expected = bad_line(text)
        if expected is None:
            told = read_program(text)
            self.assertIs(is_program(told), True)
            self.assertEqual(show_program(told), text)
        else:
            with self.assertRaises(NoLine, msg=repr(text)) as caught:
                read_program(text)
            self.assertEqual(caught.exception.line, expected, text)
            self.assertIsInstance(caught.exception, NearError)
        return expected

    def test_there_and_back(self):
        words = {}
        for seed in range(400):
            program = drawn(seed)
            text = show_program(program)
            self.assertEqual(read_program(text), program)
            self.assertIsNone(bad_line(text))
            words.update({step[0]: True for step in program[1]})
        self.assertEqual(set(words), set(PARTS) | {"input", "told"})

    def test_known_texts(self):
        for program, text in (
            ((0, (("told", (-7, 3)),)), "inputs 0\ntold -7/3"), ((0, (("told", (0, 1)),)), "inputs 0\ntold 0/1"),
            ((1, (("input", 0), ("add", 0, 0))), "inputs 1\ninput 0\nadd 0 0"), ((12, (("input", 11),)), "inputs 12\ninput 11"),
            (THIRD, "inputs 1\ninput 0\ntold 3/1\nby 0 1\nadd 0 1\ntimes 2 1"),
            (EACH_WORD, "inputs 2\ninput 0\ninput 1\ntold -7/3\nadd 0 1\ntake 3 2\ntimes 4 4\nby 5 0\nfused 6 1 2\nroot 7\nopposite 8\n"
                        "size 9\nleast 10 1\ngreatest 11 0\nif 12 11 10 9"),
        ):
            self.assertEqual(show_program(program), text)
            self.assertEqual(read_program(text), program)

    def test_long_fractions(self):
        # Python itself shows integers of at most 4,300 digits.
        for n, d in ((10 ** 2099 + 1, 10 ** 2099), (-10 ** 2100 + 3, 7 ** 2400), (3 ** 9999, 2 ** 16000), (-7 ** 7000, 10 ** 5000)):
            program = (0, (("told", (n, d)), ("root", 0)))
            self.assertEqual(gcd(n, d), 1)
            text = show_program(program)
            self.assertRegex(text, r"\Ainputs 0\ntold -?[0-9]{2000,}/[0-9]{2000,}\nroot 0\Z")
            self.assertEqual(text.count("-"), int(n < 0))
            self.assertEqual(read_program(text), program)
        many = 10 ** 4400
        self.assertEqual(read_program(show_program((many, (("input", many - 1),)))), (many, (("input", many - 1),)))

    def test_thousands_of_steps(self):
        program = (0, (HALF,) + (("root", 0),) * 999)
        self.assertEqual(read_program(show_program(program)), program)

    def test_the_first_line(self):
        for line in ("", " ", "inputs", "inputs ", "inputs  1", " inputs 1", "inputs 1 ", "inputs 01", "inputs +1", "inputs -1", "inputs -0",
                     "inputs 1 1", "input 1", "Inputs 1", "inputs x", "inputs 1.0", "inputs\t1", "inputs 1,", "1", "inputs 0x1", "inputs one"):
            self.assertEqual(self.check(line + "\ntold 1/2"), 0)
            self.assertEqual(self.check(line), 0)
        for line in ("inputs 0", "inputs 1", "inputs 10", "inputs 999999999999999999999"):
            self.assertIsNone(self.check(line + "\ntold 1/2"))

    def test_a_text_that_ends_too_early(self):
        self.assertEqual([self.check(""), self.check("\n"), self.check("inputs 1"), self.check("inputs 1\n")], [0, 0, 1, 1])

    def test_line_feeds_at_the_end_and_empty_lines(self):
        good = "inputs 1\ninput 0\nadd 0 0"
        self.assertEqual(self.check(good + "\n"), 3)
        self.assertEqual(self.check(good + "\n\n"), 3)
        self.assertEqual(self.check("\n" + good), 0)
        self.assertEqual(self.check(good.replace("\ninput", "\n\ninput")), 1)
        self.assertEqual(self.check(good.replace("\nadd", "\n\nadd")), 2)
        self.assertEqual(self.check(good.replace("\n", "\r\n")), 0)
        self.assertEqual(self.check(good + "\r"), 2)

    def test_each_kind_of_bad_line(self):
        ahead = "inputs 2\ninput 1\ntold 1/2\ninput 0\n"
        for line in (
            "add 0", "add 0 1 2", "add", "add  0 1", "add 0  1", " add 0 1", "add 0 1 ", "Add 0 1", "plus 0 1", "add 0 3", "add 3 0", "add 0 4",
            "add 0 -1", "add 00 1", "add 0 01", "add +0 1", "add 0 +1", "add -0 1", "add 0 x", "add 0,1", "add 0.0 1", "add\t0 1", "add0 1",
            "root", "root 0 0", "root 3", "fused 0 1", "fused 0 1 2 2", "fused 0 1 3", "if 0 1 2", "if 0 1 2 2 2", "if 0 1 2 3", "if 3 0 0 0",
            "input", "input 2", "input -1", "input 00", "input +0", "input 0 0", "input x", "input  0", "input 1/2", "inputs 1",
            "told", "told 1", "told 1/", "told /1", "told /", "told 1/0", "told 0/2", "told 2/4", "told -2/4", "told 1/-2", "told -1/-2", "told +1/2",
            "told 1/+2", "told 01/2", "told 1/02", "told 1/2/3", "told 1 /2", "told 1/ 2", "told 1 2", "told  1/2", "told 1/2 ", "told 1/2 0",
            "told -0/1", "told 0/-1", "told 1.5/2", "told x/2", "told 1/x", "told 0/3", "told 6/3", "told1/2", "#", "0 1", "~", "least 0",
            "greatest 0 1 1", "size 0 1", "opposite", "by 0 1/2", "take 1", "times 0 1 2", "None", "(add, 0, 1)",
        ):
            self.assertEqual(self.check(ahead + line), 4, line)
            self.assertEqual(self.check(ahead + line + "\nroot 0"), 4, line)
            self.assertEqual(self.check(ahead + line + "\n"), 4, line)
        for line in ("add 0 2", "if 0 1 2 0", "told 0/1", "told -1/2", "input 1", "root 2", "fused 2 2 2"):
            self.assertIsNone(self.check(ahead + line))

    def test_the_first_bad_line_is_told(self):
        self.assertEqual(self.check("inputs 1\nbad\ninput 0\nbad"), 1)
        self.assertEqual(self.check("bad\nbad"), 0)
        self.assertEqual(self.check("inputs 1\ninput 0\nadd 0 1\nadd 1 1"), 2)
        self.assertEqual(self.check("inputs 0\ninput 0\ntold 1/1"), 1)

    def test_texts_one_sign_off(self):
        random = Random(33)
        seen = {}
        for seed in range(60):
            text = show_program(drawn(seed))
            for _ in range(60):
                at = random.randrange(len(text) + 1)
                sign = random.choice("0123456789 -+/\naist~")
                for other in (text[:at] + sign + text[at:], text[:at] + text[at + 1:], text[:at] + sign + text[at + 1:]):
                    seen[self.check(other) is None] = True
        self.assertEqual(len(seen), 2)

    def test_no_string(self):
        check_wrong(self, read_program, 0, lambda thing: isinstance(thing, str))


if __name__ == "__main__":
    unittest.main()
