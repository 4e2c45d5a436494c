"""Points 58 to 61: desks."""

import random
import unittest
from unittest import mock

from tests.kinds import bigs, lists, nested, no_integers
from tests.later_model import LaterModel
from thirtybits.bigs import big
from thirtybits.desks import Desk, replay
from thirtybits.errors import BitsError, InvalidBound, InvalidCall, InvalidMachine, TooGreat, ZeroDivisor
from thirtybits.machines import Machine

TWO = {"add": "add", "subtract": "subtract", "multiply": "multiply", "floor": "floor_divide", "modulo": "modulo",
       "gcd": "gcd",
       "and": "bit_and", "or": "bit_or", "xor": "bit_xor"}
ONE = {"square": "square", "not": "bit_not", "root": "isqrt"}
SHIFTS = {"left": "shift_left", "right": "shift_right"}
ACTIONS = {**TWO, **ONE, **SHIFTS}


class DeskModel:
    """A desk that keeps a state of its numbers for each deed."""

    def __init__(self, bits, cutoff):
        self.model = LaterModel(bits, cutoff)
        self.past = [({}, None, None)]
        self.future = []

    def numbers(self):
        return self.past[-1][0]

    def note(self, name, n, deed, cost):
        self.past.append(({**self.numbers(), name: n}, deed, cost))
        self.future = []

    def put(self, name, n):
        self.note(name, n, ("put", name, n), [])

    def do(self, name, call):
        before = dict(self.model.tally())
        values = [self.numbers()[part] if isinstance(part, str) else part for part in call[1:]]
        n = getattr(self.model, ACTIONS[call[0]])(*values)
        cost = [(word, number - before[word]) for word, number in self.model.tally() if number > before[word]]
        self.note(name, n, ("do", name, call), cost)
        return n

    def undo(self):
        if len(self.past) > 1:
            self.future.append(self.past.pop())
            return True
        return False

    def redo(self):
        if self.future:
            self.past.append(self.future.pop())
            return True
        return False

    def state(self):
        numbers = self.numbers()
        deeds = [deed for state, deed, cost in self.past[1:]]
        costs = [cost for state, deed, cost in self.past[1:]]
        names = sorted(numbers)
        return names, [numbers[name] for name in names], deeds, costs, self.model.tally(), self.model.walk()


def state(desk):
    """All that a desk tells."""
    names = desk.names()
    return names, [desk.number(name) for name in names], desk.deeds(), desk.costs(), desk.tally(), desk.walk()


def used_desk(bits=8, cutoff=4):
    desk = Desk(bits, cutoff)
    for name, n in (("x", 2000), ("y", -70000), ("z", 0), ("abcdefgh", 7)):
        desk.put(name, n)
    desk.do("w", ("multiply", "x", "y"))
    return desk


class DeskCase(unittest.TestCase):
    def refused(self, kind, desk, method, *arguments):
        """The error that a call raises, which leaves all that the desk tells as it was."""
        before = state(desk)
        try:
            method(*arguments)
        except BitsError as error:
            self.assertIs(type(error), kind)
            self.assertEqual(state(desk), before)
            return error
        self.fail(f"{kind} is not raised")


class Making(DeskCase):
    def test_a_new_desk(self):
        desk = Desk()
        self.assertEqual(state(desk), ([], [], [], [], Machine().tally(), []))
        self.assertEqual((desk.undo(), desk.redo(), desk.dearest("sum")), (False, False, None))

    def test_parts_of_its_machine(self):
        # 256 ** 3 has four digits of 8 bits, and one of 30.
        for parts, size in (((), 1), ((8,), 4), ((8, 4), 4), ((30, 70), 1), ((12, 2), 3)):
            desk = Desk(*parts)
            desk.put("x", 256 ** 3)
            desk.do("y", ("add", "x", "x"))
            self.assertEqual(desk.walk(), [("add", size, size)] if size > 1 else [])
        self.assertEqual(Desk(cutoff=4, bits=8), Desk(8, 4))

    def test_wrong_parts(self):
        for place, value in enumerate(no_integers() + lists() + bigs() + [Desk(), 7, 31, -8, 2 ** 70]):
            with self.assertRaises(InvalidMachine) as caught:
                Desk(value, 0)
            self.assertEqual(caught.exception.part, "bits", place)
        for place, value in enumerate(no_integers() + lists() + bigs() + [Desk(), 1, 1001, -8, 2 ** 70]):
            with self.assertRaises(InvalidMachine) as caught:
                Desk(8, value)
            self.assertEqual(caught.exception.part, "cutoff", place)

    def test_methods_stand_in_the_class(self):
        for name in "put number names tally walk do deeds undo redo costs dearest __eq__".split():
            self.assertIn(name, vars(Desk))
        self.assertEqual((Desk.__module__, replay.__module__), ("thirtybits.desks",) * 2)


class Numbers(DeskCase):
    def test_put_and_number(self):
        desk = Desk(8, 4)
        for name, n in (("x", 5), ("abcdefgh", -(10 ** 5000)), ("a", 0), ("x", 2 ** 70), ("z", -1)):
            self.assertIs(desk.put(name, n), None)
            self.assertTrue(desk.number(name) == n)
            self.assertTrue(desk.number(name=name) == n)
        desk.put(n=9, name="b")
        self.assertEqual(desk.names(), ["a", "abcdefgh", "b", "x", "z"])
        self.assertEqual((desk.number("x"), desk.number("b")), (2 ** 70, 9))
        self.assertEqual((desk.tally(), desk.walk()), (Machine().tally(), []))

    def test_names_in_ascending_order(self):
        desk = Desk()
        for name in ("b", "ab", "aa", "a", "zz", "z", "abc"):
            desk.put(name, 1)
        self.assertEqual(desk.names(), ["a", "aa", "ab", "abc", "b", "z", "zz"])

    def wrong_names(self):
        return ["", "A", "aB", "a1", "1", "a b", " a", "a_b", "abcdefghi", "a" * 50, "x\n", "a-", "-", "`", "{", 5, -1,
                [], ["x"], [1]] + no_integers()

    def test_wrong_names(self):
        desk = used_desk()
        for place, name in enumerate(self.wrong_names()):
            if name in ("machine",):
                continue
            for method, arguments in ((desk.put, (name, "n")), (desk.number, (name,)), (desk.do, (name, "call"))):
                self.assertEqual(self.refused(InvalidBound, desk, method, *arguments).argument, "name", place)

    def test_names_without_a_number(self):
        desk = used_desk()
        for name in ("q", "xx", "abcdefg", "machine"):
            self.assertEqual(self.refused(InvalidBound, desk, desk.number, name).argument, "name")

    def test_wrong_numbers(self):
        desk = used_desk()
        for place, n in enumerate(no_integers() + lists() + bigs() + [[], [1], desk]):
            self.assertEqual(self.refused(InvalidBound, desk, desk.put, "x", n).argument, "n", place)

    def test_results_belong_to_the_caller(self):
        desk = used_desk()
        before = state(desk)
        for told in (desk.names(), desk.tally(), desk.walk(), desk.deeds(), desk.costs(), *desk.costs()):
            self.assertIs(type(told), list)
            told.append("more")
        self.assertEqual(state(desk), before)


class Calls(DeskCase):
    def test_example(self):
        desk = Desk(8, 4)
        desk.put("x", 2000)
        self.assertEqual(desk.do("y", ("left", "x", 11)), 4096000)
        self.assertEqual((desk.number("y"), desk.walk()), (4096000, [("left", 2, 11)]))
        self.assertEqual((desk.costs(), desk.dearest("shifted")), ([[], [("shifted", 2)]], 1))
        self.assertEqual((desk.undo(), desk.names()), (True, ["x"]))

    def test_each_word(self):
        for parts in ((8, 4), (30, 70), (9, 2)):
            for x, y in ((5, 7), (2000, -7), (-70000, 258), (256 ** 6 - 1, 256 ** 5 + 9), (10 ** 60, 10 ** 40 + 1),
                         (0, -300)):
                for word in TWO:
                    self.check(parts, x, y, (word, "x", "y"))
                    self.check(parts, x, y, (word, "y", "y"))
                for word in ("square", "not"):
                    self.check(parts, x, y, (word, "x"))
                self.check(parts, abs(x), y, ("root", "x"))
                for count in (0, 1, 8, 100):
                    self.check(parts, x, y, ("left", "y", count))
                    self.check(parts, x, y, ("right", "y", count))

    def check(self, parts, x, y, call):
        """Compare a call, also on a name that stands in it, with the model."""
        for name in ("z", "x", "y"):
            desk, model = Desk(*parts), DeskModel(*parts)
            for either in (desk, model):
                either.put("x", x)
                either.put("y", y)
            self.assertEqual(desk.do(name, call), model.do(name, call))
            self.assertIs(type(desk.number(name)), int)
            self.assertEqual(state(desk), model.state(), (parts, x, y, call))

    def test_by_name(self):
        desk = used_desk()
        self.assertEqual(desk.do(call=("add", "x", "x"), name="v"), 4000)
        self.assertEqual(desk.dearest(word="product"), 4)

    def wrong_calls(self):
        held = [("x",), ("x", "x", "x"), ("add",), ("add", "x"), ("add", "x", "y", "z"), ("add", "x", "q"),
                ("add", "q", "x"), ("add", "x", 5), ("add", 5, "x")]
        held += [("ADD", "x", "y"), ("floor_divide", "x", "y"), ("", "x", "y"), ("sum", "x", "y"), ("square",),
                 ("square", "q"), ("square", "x", "y"), ("square", 5)]
        held += [("not",), ("root", "x", 1), ("left", "x"), ("left", "x", -1), ("left", "x", True), ("left", "x", None),
                 ("left", "x", "y"), ("left", "q", 1)]
        held += [("left", 5, 1), ("left", "x", 1, 1), ("right", "x"), ("right", "x", -1), ("right", "x", False),
                 ("right", "x", [1]), (None, "x", "y"), (5, "x", "y")]
        held += [(["add"], "x", "y"), (("add",), "x", "y"), ("add", ["x"], "y"), ("add", "x", ["y"]),
                 ("add", ("x",), "y"), ("add", "X", "y"), ("left", "X", 1)]
        held += [["add", "x", "y"], "add", {"add": ("x", "y")}, [], (), nested(lambda value: (value,)),
                 ("add", nested(lambda value: (value,)), "x")]
        held += [(nested(lambda value: [value]), "x", "y"), ("add", "x", nested(lambda value: {0: value})),
                 ("left", "x", nested(lambda value: (value,)))]
        held += [("add", "abcdefghi", "x"), (True, "x", "y"), (b"add", "x", "y"), ("add", b"x", "y"), ("multiply", "x"),
                 ("square", "x", 1)]
        return held + no_integers() + lists() + bigs() + [5, -1, Desk(), Machine()]

    def test_wrong_calls(self):
        desk = used_desk()
        for place, call in enumerate(self.wrong_calls()):
            for name in ("x", "new"):
                error = self.refused(InvalidCall, desk, desk.do, name, call)
                self.assertTrue(error.call is call, place)
            self.assertEqual(self.refused(InvalidBound, desk, desk.do, "X", call).argument, "name", place)

    def test_names_that_are_taken_back(self):
        desk = Desk()
        desk.put("x", 5)
        desk.undo()
        self.assertEqual(self.refused(InvalidCall, desk, desk.do, "y", ("square", "x")).call, ("square", "x"))
        self.assertEqual(self.refused(InvalidBound, desk, desk.number, "x").argument, "name")
        desk.redo()
        self.assertEqual(desk.do("y", ("square", "x")), 25)

    def test_too_great(self):
        desk = Desk()
        value = {"half": 2 ** 50000 - 1, "more": -(2 ** 50000), "zero": 0, "one": 1, "all": 2 ** 99999,
                 "over": 2 ** 100000, "b": 2 ** 60000}
        for name, n in value.items():
            desk.put(name, n)
        for call in (("multiply", "half", "half"), ("multiply", "one", "half"), ("square", "half"),
                     ("left", "one", 99999), ("left", "half", 50000),
                     ("left", "more", 49999), ("left", "all", 0), ("multiply", "zero", "over"),
                     ("multiply", "over", "zero"), ("square", "zero"),
                     ("left", "zero", 10 ** 100), ("right", "over", 10 ** 100), ("add", "over", "over"),
                     ("floor", "over", "b"), ("left", "zero", 100001)):
            found = desk.do("q", call)
            if call[0] == "multiply":
                self.assertTrue(found == value[call[1]] * value[call[2]])
            elif call[0] == "left":
                self.assertTrue(found == (value[call[1]] << call[2] if value[call[1]] else 0))
            desk.undo()
        for call in (("multiply", "half", "more"), ("multiply", "more", "half"), ("multiply", "over", "one"),
                     ("multiply", "b", "half"), ("square", "more"),
                     ("square", "b"), ("left", "one", 100000), ("left", "half", 50001), ("left", "more", 50000),
                     ("left", "all", 1), ("left", "over", 0),
                     ("left", "one", 10 ** 100)):
            self.refused(TooGreat, desk, desk.do, "q", call)
            self.refused(TooGreat, desk, desk.do, "one", call)

    def test_what_the_functions_raise(self):
        desk = used_desk()
        for word in ("floor", "modulo"):
            for name in ("x", "y", "z"):
                self.refused(ZeroDivisor, desk, desk.do, "x", (word, name, "z"))
        self.assertEqual(self.refused(InvalidBound, desk, desk.do, "x", ("root", "y")).argument, "x")
        self.assertEqual(desk.do("v", ("gcd", "z", "z")), 0)


class Deeds(DeskCase):
    def test_undo_and_redo(self):
        desk = Desk(8, 4)
        deeds = [("put", "x", 2000), ("do", "x", ("square", "x")), ("put", "x", 5), ("do", "y", ("add", "x", "x"))]
        desk.put("x", 2000)
        desk.do("x", ("square", "x"))
        desk.put("x", 5)
        desk.do("y", ("add", "x", "x"))
        counted = desk.tally(), desk.walk()
        self.assertEqual(desk.deeds(), deeds)
        numbers = [{"x": 5, "y": 10}, {"x": 5}, {"x": 4000000}, {"x": 2000}, {}]
        for place in range(1, 5):
            self.assertIs(desk.undo(), True)
            self.assertEqual({name: desk.number(name) for name in desk.names()}, numbers[place])
            self.assertEqual(desk.deeds(), deeds[:4 - place])
        self.assertIs(desk.undo(), False)
        self.assertEqual((desk.names(), desk.deeds(), desk.costs()), ([], [], []))
        for place in range(3, -1, -1):
            self.assertIs(desk.redo(), True)
            self.assertEqual({name: desk.number(name) for name in desk.names()}, numbers[place])
            self.assertEqual(desk.deeds(), deeds[:4 - place])
        self.assertIs(desk.redo(), False)
        # Nothing was carried out again.
        self.assertEqual((desk.tally(), desk.walk()), counted)
        self.assertEqual(desk.costs(), [[], [("product", 3)], [], [("short", 1)]])

    def test_a_new_deed_ends_what_was_taken_back(self):
        desk = Desk()
        desk.put("x", 1)
        desk.put("x", 2)
        desk.undo()
        desk.put("y", 3)
        self.assertIs(desk.redo(), False)
        self.assertEqual((desk.number("x"), desk.deeds()), (1, [("put", "x", 1), ("put", "y", 3)]))
        desk.undo()
        desk.undo()
        self.assertIs(desk.redo(), True)
        self.assertEqual(desk.names(), ["x"])

    def test_a_refused_deed_ends_nothing(self):
        desk = Desk()
        desk.put("x", 1)
        desk.put("z", 0)
        desk.undo()
        for method, arguments in ((desk.put, ("x", None)), (desk.put, ("X", 1)), (desk.do, ("x", ("root",))),
                                  (desk.do, ("X", ("square", "x")))):
            with self.assertRaises(BitsError):
                method(*arguments)
        self.assertIs(desk.redo(), True)
        self.assertEqual(desk.names(), ["x", "z"])

    def test_many_deeds(self):
        chance = random.Random(227)
        for parts in ((8, 4), (30, 70), (9, 2)):
            for game in range(12):
                desk, model = Desk(*parts), DeskModel(*parts)
                for step in range(60):
                    self.one_deed(chance, desk, model)
                    self.assertEqual(state(desk), model.state())
                for word, number in desk.tally():
                    told = [dict(cost).get(word, 0) for cost in desk.costs()]
                    self.assertEqual(desk.dearest(word), told.index(max(told)) if any(told) else None)
                again = replay(desk.deeds(), bits=parts[0], cutoff=parts[1])
                self.assertTrue(again == desk)
                self.assertEqual(state(again)[:4], state(desk)[:4])

    def one_deed(self, chance, desk, model):
        """Do the same on a desk and on its model."""
        names = model.numbers()
        kind = chance.randrange(10)
        if kind < 3 or not names:
            name, n = chance.choice("abcd"), chance.getrandbits(chance.choice((4, 9, 60, 100))) * chance.choice((1, -1))
            desk.put(name, n)
            model.put(name, n)
        elif kind < 5:
            self.assertIs(desk.undo(), model.undo())
        elif kind < 6:
            self.assertIs(desk.redo(), model.redo())
        else:
            word = chance.choice(sorted(ACTIONS))
            first, second = chance.choice(sorted(names)), chance.choice(sorted(names))
            call = (word, first, second) if word in TWO else (word, first) if word in ONE else (word, first,
                                                                                                chance.randrange(40))
            refused = (word in ("floor", "modulo") and names[second] == 0) or (word == "root" and names[first] < 0)
            if refused or names[first].bit_length() > 2000:
                return
            name = chance.choice("abcd")
            self.assertEqual(desk.do(name, call), model.do(name, call))


class Costs(DeskCase):
    def test_costs(self):
        desk = used_desk()
        desk.do("v", ("subtract", "y", "y"))
        desk.do("u", ("gcd", "x", "abcdefgh"))
        desk.do("t", ("add", "x", "x"))
        self.assertEqual(desk.costs(), [[]] * 4 + [[("product", 6)], [("looked", 3)], [("short", 1), ("quotient", 4)],
                                                   [("sum", 2)]])
        self.assertEqual([type(pair) for cost in desk.costs() for pair in cost], [tuple] * 5)
        self.assertEqual([desk.dearest(word) for word in ("product", "looked", "short", "quotient", "sum", "shifted")],
                         [4, 5, 6, 6, 7, None])

    def test_calls_that_count_nothing(self):
        desk = Desk(8, 4)
        desk.put("z", 0)
        desk.put("x", 70000)
        desk.do("q", ("multiply", "z", "x"))
        self.assertEqual((desk.costs(), desk.dearest("short")), ([[], [], []], None))

    def test_the_first_of_the_dearest(self):
        desk = Desk(8, 4)
        desk.put("x", 5)
        for step in range(3):
            desk.do("y", ("add", "x", "x"))
        self.assertEqual(desk.dearest("short"), 1)
        desk.put("x", 70000)
        desk.do("y", ("add", "x", "x"))
        desk.put("x", 256 ** 5)
        desk.do("y", ("add", "x", "x"))
        desk.do("y", ("add", "x", "x"))
        self.assertEqual(desk.dearest("sum"), 7)
        # Deeds that are taken back do not count.
        for step in range(3):
            desk.undo()
        self.assertEqual(desk.dearest("sum"), 5)
        desk.undo()
        self.assertEqual(desk.dearest("sum"), None)

    def test_wrong_words(self):
        desk = used_desk()
        for place, word in enumerate(no_integers() + lists() + [5, "", "Sum", "sums", "add", "put", [], ["sum"], desk]):
            self.assertEqual(self.refused(InvalidBound, desk, desk.dearest, word).argument, "word", place)


class Equality(DeskCase):
    def test_equal(self):
        self.assertTrue(Desk() == Desk(30, 70))
        first, second = used_desk(), Desk(8, 4)
        for name in first.names():
            second.put(name, first.number(name))
        self.assertTrue(first == second)
        self.assertFalse(first != second)
        first.undo()
        self.assertFalse(first == second)
        first.redo()
        self.assertTrue(first == second)

    def test_not_equal(self):
        desk = used_desk()
        others = [used_desk(8, 5), used_desk(9, 4), Desk(8, 4), Machine(8, 4), {}, [], None, Desk,
                  big(Machine(8, 4), 5), mock.ANY,
                  nested(lambda value: [value])]
        for other in (("x", 2001), ("new", 5)):
            others.append(used_desk())
            others[-1].put(*other)
        for place, other in enumerate(others):
            self.assertTrue((desk == other) is False, place)
            self.assertTrue((desk != other) is True, place)
        self.assertTrue((Desk(8, 4) == {}) is False)


class Replay(DeskCase):
    def test_facts(self):
        desk = used_desk()
        desk.do("v", ("floor", "y", "x"))
        desk.do("v", ("root", "x"))
        desk.undo()
        deeds = desk.deeds()
        again = replay(deeds, bits=8, cutoff=4)
        self.assertTrue(again == desk)
        self.assertEqual((again.costs(), again.deeds()), (desk.costs(), deeds))
        for parts in ((8, 5), (9, 4), (30, 70), (17, 1000)):
            other = replay(bits=parts[0], cutoff=parts[1], deeds=deeds)
            self.assertFalse(other == desk)
            self.assertEqual(state(other)[:3], state(desk)[:3])
            self.assertEqual(other, used_again(deeds, Desk(*parts)))
        self.assertEqual(replay(deeds), replay(deeds, bits=30, cutoff=70))
        self.assertTrue(replay([]) == Desk())
        self.assertIs(again.redo(), False)

    def test_the_list_stays(self):
        deeds = used_desk().deeds()
        kept = list(deeds)
        desk = replay(deeds)
        desk.put("more", 1)
        self.assertEqual(deeds, kept)
        deeds.clear()
        self.assertEqual(len(desk.deeds()), 6)

    def wrong_deeds(self):
        deep = nested(lambda value: (value,))
        wrong = [(), ("put", "x", 5), [5], ["put"], [("put", "x")], [("put", "x", 5, 6)], [["put", "x", 5]],
                 [("puts", "x", 5)], [("", "x", 5)], [(None, "x", 5)],
                 [("PUT", "x", 5)], [("put", "x", 5), None], [("undo", "x", 5)], [(["put"], "x", 5)],
                 [(("put",), "x", 5)], [(5, "x", 5)], [()], [[]], {}, {"put": 1},
                 [deep], [(deep, "x", 5)], [(b"put", "x", 5)], [(True, "x", 5)], "put",
                 [("put", "X", 5), ("redo", "x", 5)]]
        return wrong + no_integers() + [value for value in lists()] + bigs() + [5, Desk(), Machine()]

    def test_wrong_deeds(self):
        for place, deeds in enumerate(self.wrong_deeds()):
            with self.assertRaises(InvalidBound) as caught:
                replay(deeds, bits=7)
            self.assertEqual(caught.exception.argument, "deeds", place)

    def error(self, kind, deeds, **parts):
        with self.assertRaises(BitsError) as caught:
            replay(deeds, **parts)
        self.assertIs(type(caught.exception), kind)
        return caught.exception

    def test_wrong_machines(self):
        for deeds in ([], [("put", "X", 5)], [("do", "x", None)]):
            self.assertEqual(self.error(InvalidMachine, deeds, bits=7, cutoff=1).part, "bits")
            self.assertEqual(self.error(InvalidMachine, deeds, bits=8, cutoff=1).part, "cutoff")
            self.assertEqual(self.error(InvalidMachine, deeds, bits=True).part, "bits")
        with self.assertRaises(TypeError):
            replay([], 8, 4)

    def test_what_the_first_deed_raises(self):
        good = ("put", "x", 5)
        deep = nested(lambda value: (value,))
        self.assertEqual(self.error(InvalidBound, [good, ("put", "X", None), ("do", "x", None)]).argument, "name")
        self.assertEqual(self.error(InvalidBound, [good, ("put", "x", None), ("do", "x", None)]).argument, "n")
        self.assertEqual(self.error(InvalidBound, [("put", "x", deep)]).argument, "n")
        self.assertEqual(self.error(InvalidBound, [("put", deep, 5)]).argument, "name")
        self.assertEqual(self.error(InvalidBound, [good, ("do", "", None)]).argument, "name")
        self.assertEqual(self.error(InvalidCall, [("do", "x", ("square", "x")), good]).call, ("square", "x"))
        self.assertTrue(self.error(InvalidCall, [good, ("do", "x", deep)]).call is deep)
        self.error(ZeroDivisor, [good, ("put", "z", 0), ("do", "y", ("modulo", "x", "z")), ("put", "x", None)])
        self.error(TooGreat, [good, ("do", "y", ("left", "x", 100000))])
        self.assertEqual(self.error(InvalidBound, [("put", "x", -5), ("do", "y", ("root", "x"))]).argument, "x")


def used_again(deeds, desk):
    """A desk on which deeds were done, one by one."""
    for word, name, what in deeds:
        desk.put(name, what) if word == "put" else desk.do(name, what)
    return desk
