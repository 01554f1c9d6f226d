"""[48], [49]: the bench."""

import unittest
from random import Random

from drawn import outcome_of_word
from nearestheld.bench import Bench
from nearestheld.errors import NearError, NoCommand, Wrong
from nearestheld.forms import is_format, is_way
from nearestheld.heap import Heap
from nearestheld.reader import read, show_own
from nearestheld.rounding import joined
from nearestheld.texts import shortest_text
from reference import LARGE_FORMATS, SMALL_FORMATS, WAYS
from things import Odd, check_wrong, picture, things

SMALL = (10, 2, -3, 3)
NAN, TOP, BOTTOM = ("nan",), ("inf", 0), ("inf", 1)
ONE, THREE, ZERO, MINUS_ZERO = ("num", 0, 10, -1), ("num", 0, 30, -1), ("num", 0, 0, -3), ("num", 1, 0, -3)
OPERANDS = {"add": 2, "take": 2, "times": 2, "by": 2, "rest": 2, "least": 2, "greatest": 2, "fused": 3, "root": 1, "whole": 1,
            "opposite": 1, "size": 1}
TEXTS = ("1", "3", "-2.5", "0", "-0", "inf", "-inf", "+inf", "nan", "1e3", "-7e-3", "99000", "0.001", "1e9", "1e-9", "1.05", ".5", "7.", "+00012")


class Model:
    """A bench that keeps all its states."""

    def __init__(self, form, way):
        self.form, self.states = form, [(way, {}, ())]

    def execute(self, line):
        way, named, flags = self.states[-1]
        word, *rest = line.split(" ")
        if word == "set" or word in OPERANDS:
            values = [named[name] for name in rest[1:]] if word != "set" else []
            value, more = read(self.form, way, rest[1]) if word == "set" else outcome_of_word(self.form, way, word, values)
            self.states.append((way, {**named, rest[0]: value}, joined([(0, flags), (0, more)])))
            return [shortest_text(self.form, value)]
        if word in ("way", "lower"):
            self.states.append((rest[0], named, flags) if word == "way" else (way, named, ()))
            return ["done"]
        if word == "back":
            if len(self.states) == 1:
                return ["nothing"]
            self.states.pop()
            return ["done"]
        if word == "flags":
            return [" ".join(flags)]
        if word == "names":
            return [" ".join(sorted(named))]
        values = [named[name] for name in rest]
        if word == "less":
            order = [(-10 ** 99 if value == BOTTOM else 10 ** 99 if value == TOP else (1 - 2 * value[1]) * value[2] * self.form[0] ** (value[3] - self.form[2]))
                     for value in values if value != NAN]
            return ["yes" if len(order) == 2 and order[0] < order[1] else "no"]
        return [show_own(self.form, values[0]) if word == "own" and values[0][0] == "num" else shortest_text(self.form, values[0])]


class Checks(unittest.TestCase):
    def check_bad(self, bench, *lines):
        """Check that lines are no COMMANDS, and that nothing has changed then, what can be taken back neither."""
        for line in lines:
            before, shown = bench.twin(), picture(line)
            with self.subTest(line=shown[:200]):
                with self.assertRaises(NoCommand) as caught:
                    bench.execute(line)
                self.assertIs(caught.exception.line, line)
                self.assertIsInstance(caught.exception, NearError)
                self.assertEqual(picture(line), shown)
                self.check_same_past(bench.twin(), before)

    def check_same_past(self, bench, other):
        while True:
            self.assertIs(bench == other, True)
            self.assertEqual(bench.state(), other.state())
            told = bench.execute("back")
            self.assertEqual(other.execute("back"), told)
            if told == ["nothing"]:
                return

    def bench(self, *lines, form=SMALL, way="even"):
        bench = Bench(form, way)
        for line in lines:
            bench.execute(line)
        return bench


class Making(Checks):
    def test_wrong_arguments(self):
        check_wrong(self, lambda thing: Bench(thing, "even"), 0, is_format)
        check_wrong(self, lambda thing: Bench(SMALL, thing), 1, is_way)
        check_wrong(self, lambda thing: Bench(thing, thing), 0, is_format)
        for form, way, place in (((3, 2, 0, 0), "near", 0), (SMALL, "Even", 1), (list(SMALL), "even", 0), (SMALL, ("even",), 1), ("even", SMALL, 0)):
            with self.assertRaises(Wrong) as caught:
                Bench(form, way)
            self.assertEqual(caught.exception.place, place)

    def test_at_first(self):
        for form in SMALL_FORMATS + LARGE_FORMATS:
            for way in WAYS:
                bench = Bench(form, way)
                self.assertEqual(bench.state(), (way, {}, ()))
                self.assertEqual([bench.execute(line) for line in ("flags", "names", "back")], [[""], [""], ["nothing"]])


class Commands(Checks):
    def test_set(self):
        for form in (SMALL, (2, 3, -2, 1), (2, 53, -1074, 971)):
            for way in WAYS:
                for text in TEXTS:
                    bench = Bench(form, way)
                    value, flags = read(form, way, text)
                    self.assertEqual(bench.execute("set a " + text), [shortest_text(form, value)])
                    self.assertEqual(bench.state(), (way, {"a": value}, flags))

    def test_each_operation(self):
        random = Random(48)
        for word, many in OPERANDS.items():
            for _ in range(60):
                form, way = random.choice((SMALL,) + SMALL_FORMATS), random.choice(WAYS)
                bench = Bench(form, way)
                names = ["a", "bc", "d"][:many]
                for name in names:
                    bench.execute(f"set {name} {random.choice(TEXTS)}")
                bench.execute("lower")
                values = [bench.state()[1][name] for name in names]
                value, flags = outcome_of_word(form, way, word, values)
                self.assertEqual(bench.execute(" ".join([word, "x"] + names)), [shortest_text(form, value)])
                self.assertEqual(bench.state(), (way, dict(zip(names + ["x"], values + [value])), flags))

    def test_known_ones(self):
        bench = Bench(SMALL, "even")
        for line, told in (
            ("set a 1", "1"), ("set b 3", "3"), ("by q a b", "0.33"), ("flags", "inexact"), ("less q a", "yes"), ("way up", "done"), ("by q a b", "0.34"),
            ("back", "done"), ("show q", "0.33"), ("own q", "3.3@-1"), ("names", "a b q"), ("fused f b b a", "10"), ("own f", "1.0@1"), ("root r b", "1.8"),
            ("whole w r", "2"), ("opposite o w", "-2"), ("size s o", "2"), ("rest t b s", "-1"), ("least l t s", "-1"), ("greatest g t s", "2"),
            ("take z a a", "0"), ("by i a z", "inf"), ("flags", "by inexact"), ("own i", "inf"), ("by n z z", "nan"), ("own n", "nan"), ("show n", "nan"),
            ("flags", "by inexact invalid"), ("lower", "done"), ("flags", ""), ("times h a a", "1"), ("flags", ""), ("add h h q", "1.4"), ("names", "a b f g h i l n o q r s t w z"),
        ):
            self.assertEqual(bench.execute(line), [told], line)

    def test_flags_are_joined(self):
        bench = Bench(SMALL, "even")
        for line, told in (("set a 1e9", "inexact over"), ("set b 0", "inexact over"), ("set c 1", "inexact over"), ("by d c b", "by inexact over"),
                           ("by d b b", "by inexact invalid over"), ("set e 1e-9", "by inexact invalid over tiny"), ("set f nan", "by inexact invalid over tiny"),
                           ("lower", ""), ("add f f f", ""), ("set a 1.25", "inexact")):
            bench.execute(line)
            self.assertEqual(bench.execute("flags"), [told])
            self.assertEqual(bench.state()[2], tuple(told.split()))

    def test_ways(self):
        bench = Bench(SMALL, "even")
        for way, told in (("up", "0.34"), ("down", "0.33"), ("zero", "0.33"), ("away", "0.33"), ("even", "0.33")):
            self.assertEqual(bench.execute("way " + way), ["done"])
            self.assertEqual(bench.state()[0], way)
            bench.execute("set a 1")
            bench.execute("set b 3")
            self.assertEqual(bench.execute("by c a b"), [told])
        self.assertEqual(Bench(SMALL, "up").execute("set a 1.11"), ["1.2"])

    def test_names_of_none_and_of_several(self):
        bench = Bench(SMALL, "even")
        self.assertEqual(bench.execute("names"), [""])
        for name, told in (("b", "b"), ("abcdefgh", "abcdefgh b"), ("a", "a abcdefgh b"), ("zz", "a abcdefgh b zz"), ("set", "a abcdefgh b set zz"), ("a", "a abcdefgh b set zz")):
            bench.execute(f"set {name} 1")
            self.assertEqual(bench.execute("names"), [told])
        for name in ("names", "back", "opposite", "greatest", "x"):
            self.assertEqual(self.bench("set x 2", f"add {name} x x").execute("show " + name), ["4"])

    def test_own(self):
        bench = self.bench("set a -0", "set b inf", "set c -inf", "set d nan", "set e -0.005", form=SMALL)
        self.assertEqual([bench.execute("own " + name) for name in "abcde"], [["-0.0@-2"], ["inf"], ["-inf"], ["nan"], ["-0.5@-2"]])
        self.assertEqual([bench.execute("show " + name) for name in "abcde"], [["-0"], ["inf"], ["-inf"], ["nan"], ["-0.005"]])
        self.assertEqual(self.bench("set a 0.1", form=(36, 2, -3, 3)).execute("own a"), ["3.m@-1"])

    def test_less(self):
        bench = self.bench("set a 1", "set b 3", "set p 0", "set m -0", "set n nan", "set i inf", "set j -inf")
        for one, other, told in (("a", "b", "yes"), ("b", "a", "no"), ("a", "a", "no"), ("p", "m", "no"), ("m", "p", "no"), ("n", "a", "no"), ("a", "n", "no"), ("n", "n", "no"),
                                 ("j", "a", "yes"), ("a", "i", "yes"), ("j", "i", "yes"), ("i", "i", "no"), ("m", "a", "yes"), ("j", "j", "no"), ("i", "j", "no")):
            self.assertEqual(bench.execute(f"less {one} {other}"), [told])

    def test_a_name_given_anew_also_from_itself(self):
        bench = self.bench("set a 3")
        for line, told in (("add a a a", "6"), ("times a a a", "36"), ("root a a", "6"), ("fused a a a a", "42"), ("opposite a a", "-42"), ("set a 1", "1"), ("back", "done")):
            self.assertEqual(bench.execute(line), [told])
        self.assertEqual(bench.execute("show a"), ["-42"])

    def test_lists_are_new(self):
        bench = self.bench("set a 3")
        for line, told in (("show a", "3"), ("names", "a"), ("flags", ""), ("own a", "3.0@0"), ("less a a", "no")):
            for _ in range(2):
                found = bench.execute(line)
                self.assertEqual(found, [told])
                found.append(None)

    def test_long_texts(self):
        bench = Bench((2, 53, -1074, 971), "even")
        self.assertEqual(bench.execute("set a 1" + "0" * 2900), ["inf"])
        self.assertEqual(bench.execute("set a 0." + "0" * 2900 + "1"), ["0"])
        self.assertEqual(bench.execute("set a 0.1" + "0" * 2900 + "1"), ["0.1"])
        self.assertEqual(bench.execute("set a 1e" + "9" * 2900), ["inf"])


class Bad(Checks):
    def test_no_commands(self):
        bench = self.bench("set a 1", "set b 3", "by c a b", "way up", "set a 2", "lower", "by c a b")
        self.check_bad(
            bench, "", " ", "a", "Set a 1", "SET a 1", "set", "set a", "set a ", "set  a 1", "set a  1", " set a 1", "set a 1 ", "set a 1 2", "set a\n1", "set a 1\n", "\nset a 1",
            "set a\t1", "set A 1", "set a1 1", "set abcdefghi 1", "set  1", "set a_ 1", "set 1 1", "set a -", "set a +nan", "set a -nan", "set a Inf", "set a infinity", "set a 1e",
            "set a 1e1.5", "set a .", "set a 1,5", "set a 0x1", "set a 1_0", "set a b", "set a 1..2", "set a 1.2.3", "set a --1", "set a e5", "set a one", "set a NaN",
            "add", "add x", "add x a", "add x a b c", "add x a zz", "add x zz a", "add X a b", "add x a B", "add xx1 a b", "add abcdefghi a b", "add x  a b", "add x a b ",
            "add x a 1", "add 1 a b", "plus x a b", "times x a", "by x a", "take x a", "rest x a", "least x a", "greatest x a", "fused x a b", "fused x a b c a", "fused x a b zz",
            "root x", "root x a b", "root x zz", "root A a", "whole x", "whole x a b", "opposite x", "opposite x a a", "size x", "size x a b", "size x zz",
            "show", "show zz", "show a b", "show  a", "show A", "show a ", "own", "own zz", "own a b", "less a", "less a b c", "less a zz", "less zz a", "less",
            "flags ", "flags a", " flags", "Flags", "lower ", "lower a", "way", "way ", "way near", "way Up", "way up down", "way  up", "way up ", "way a",
            "names ", "names a", "back ", "back 1", "back a", "Back", "back\n", "undo", "state", "twin", "execute", "set a 1\nset b 2", "show a\nshow b", "if x a b a", "told x 1",
            "left x a b", "scale x a 2", "input a 0", "a b c d e", "~", "set a " + "1" * 2000 + "x", "x" * 3000, " " * 3000, "add " + "a " * 1000,
        )
        # Letters and figures of other kinds are none of these.
        self.check_bad(bench, "set \u00e4 1", "set a \u0661", "set a \uff11", "set\u00a0a 1", "set \u0430 1", "set \u00df 1", "set a 1\u2028")

    def test_what_is_no_string(self):
        bench = self.bench("set a 1", "way up")
        self.check_bad(bench, *[thing for thing in things() if not isinstance(thing, str)])
        self.check_bad(bench, b"show a", ["show a"], ("show", "a"), ["show", "a"], {"show": "a"}, Odd(), bench)
        self.check_bad(bench, *[thing for thing in things() if isinstance(thing, str)])

    def test_on_an_empty_bench(self):
        bench = Bench(SMALL, "even")
        self.check_bad(bench, "show a", "add a a a", "opposite a a", "own a", "less a a", "root a a")
        self.assertEqual(bench.state(), ("even", {}, ()))

    def test_a_name_that_was_taken_back_is_not_there(self):
        bench = self.bench("set a 1", "set b 2")
        bench.execute("back")
        self.check_bad(bench, "show b", "add c a b")
        self.assertEqual(bench.execute("names"), ["a"])

    def test_a_bad_one_between_good_ones(self):
        bench = self.bench("set a 1", "set a 2")
        self.check_bad(bench, "set a x", "by a a zz")
        self.assertEqual([bench.execute("back"), bench.execute("show a"), bench.execute("back"), bench.execute("back")], [["done"], ["1"], ["done"], ["nothing"]])


class Back(Checks):
    def test_behind_each_kind(self):
        lines = ["set a 1", "set b 3", "way down", "way down", "lower", "by c a b", "lower", "lower", "add a a b", "set a 1e9", "way up", "root c b", "opposite a a"]
        bench = Bench(SMALL, "even")
        states = [bench.state()]
        for line in lines:
            bench.execute(line)
            states.append(bench.state())
            for told in ("show a", "flags", "names", "own a", "less a a"):
                bench.execute(told)
        twin = bench.twin()
        for one in (bench, twin):
            for state in states[-2::-1]:
                self.assertEqual(one.execute("back"), ["done"])
                self.assertEqual(one.state(), state)
                one.execute("flags")
            for _ in range(3):
                self.assertEqual(one.execute("back"), ["nothing"])
                self.assertEqual(one.state(), ("even", {}, ()))

    def test_back_is_not_taken_back(self):
        bench = self.bench("set a 1", "set a 2", "set a 3", "back", "back")
        self.assertEqual(bench.execute("show a"), ["1"])
        bench.execute("set a 9")
        bench.execute("back")
        self.assertEqual(bench.execute("show a"), ["1"])
        self.assertEqual([bench.execute("back"), bench.execute("back"), bench.execute("names")], [["done"], ["nothing"], [""]])

    def test_drawn_commands(self):
        random = Random(49)
        for at in range(40):
            form, way = random.choice((SMALL,) + SMALL_FORMATS), random.choice(WAYS)
            bench, model = Bench(form, way), Model(form, way)
            for _ in range(60):
                names = sorted(model.states[-1][1])
                word = random.choice(list(OPERANDS) + ["set", "way", "lower", "back", "back", "flags", "names", "show", "own", "less"]) if names else "set"
                many = OPERANDS.get(word, {"show": 1, "own": 1, "less": 2}.get(word, 0))
                parts = [word] + ([random.choice("abcd")] if word in OPERANDS or word == "set" else []) + random.choices(names or ["a"], k=many)
                parts += [random.choice(TEXTS)] if word == "set" else [random.choice(WAYS)] if word == "way" else []
                line = " ".join(parts)
                self.assertEqual(bench.execute(line), model.execute(line), line)
                self.assertEqual(bench.state(), model.states[-1])
                self.assertEqual(list(bench.state()[1]), sorted(model.states[-1][1]))


class States(Checks):
    def test_keys_are_ascending_and_all_is_new(self):
        bench = self.bench("set c 1", "set a 2", "set b 1.11", "set abc 4")
        for _ in range(2):
            way, named, flags = bench.state()
            self.assertEqual([way, list(named), flags], ["even", ["a", "abc", "b", "c"], ("inexact",)])
            self.assertEqual([way.__class__, named.__class__, flags.__class__, bench.state().__class__], [str, dict, tuple, tuple])
            named.clear()
            named["q"] = None
        self.assertEqual(bench.execute("names"), ["a abc b c"])

    def test_a_twin_goes_its_own_way(self):
        bench = self.bench("set a 1", "way up", "set b 3")
        twin = bench.twin()
        self.assertIs(bench == twin, True)
        twin.execute("by c a b")
        self.assertIs(bench == twin, False)
        self.assertEqual([bench.execute("names"), twin.execute("names")], [["a b"], ["a b c"]])
        bench.execute("back")
        bench.execute("back")
        self.assertEqual([bench.state()[0], twin.state()[0]], ["even", "up"])
        self.assertEqual([twin.execute("back") for _ in range(5)], [["done"]] * 4 + [["nothing"]])
        self.assertEqual(bench.state(), ("even", {"a": ONE}, ()))

    def test_equality(self):
        one = self.bench("set a 1", "set b 3")
        self.assertIs(one == self.bench("set b 3", "set a 1"), True)
        self.assertIs(one != self.bench("set b 3", "set a 1"), False)
        self.assertIs(one == self.bench("way up", "set c 1", "back", "set b 1", "way even", "by a b b", "set b 3"), True)
        self.assertIs(one == self.bench("set a 1", "by c a a", "back", "set b 7e-99", "set b 3", "lower"), True)
        for other in (
            self.bench("set a 1"), self.bench("set a 1", "set b 3", way="up"), self.bench("set a 1", "set b 3", form=(10, 2, -3, 4)), self.bench("set a 1", "set b 3.01"),
            self.bench("set a 1", "set b 3", "set c 3"), self.bench("set a 3", "set b 1"), self.bench("set a 1", "set c 3"),
        ):
            self.assertIs(one == other, False)
            self.assertIs(other == one, False)
            self.assertIs(one != other, True)
        self.assertIs(self.bench("set a 0") == self.bench("set a -0"), False)
        self.assertIs(self.bench("set a nan") == self.bench("set a nan"), True)

    def test_nothing_else_is_equal(self):
        bench = Bench(SMALL, "even")
        for thing in things() + [bench.state(), Heap(SMALL), SMALL]:
            self.assertIs(bench == thing, False)
            self.assertIs(bench != thing, True)

    def test_what_is_handed_in_stays(self):
        form = tuple(list(SMALL))
        bench = Bench(form, "even")
        bench.execute("set a 1")
        self.assertEqual(form, SMALL)
        self.assertEqual(bench.state()[1]["a"], ONE)


if __name__ == "__main__":
    unittest.main()
