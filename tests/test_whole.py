"""Point 1 and the interface: what is promised over the whole program."""

import inspect
import unittest
from copy import deepcopy

from keysfelt import alike, best, caps, hands, holds, plans, texts, totals, which, wrong
from keysfelt.errors import (
    BadAim, BadCounts, BadHold, BadKey, BadNumber, BadPieces, BadRing, BadRings, BadSeen, FeelError, InvalidText,
)
from tests.helpers import (
    ANY_VALUES, NO_PLANS, WRONG_AIMS, WRONG_COUNTS, WRONG_PIECES, WRONG_RINGS, wrong_holds, wrong_keys, wrong_numbers,
    wrong_rows,
)

RING = (0, 0, 1, 2)

# What the interface lists: the module, the name, the arguments, and values for them.
FUNCTIONS = [
    (holds, "felt", "ring hold many", (RING, (1, -1), 7)),
    (holds, "holds_like", "ring hold", ((0, 1, 0, 2), (0, 1))),
    (holds, "least_felt", "ring aim", (RING, "hold")),
    (holds, "alike_pair", "ring aim", ((0, 1, 0, 2), "key")),
    (plans, "depth_of", "ring aim value", ((0, 1), "key", ((0, ()), (1, ())))),
    (plans, "least_depth", "ring aim", (RING, "hold")),
    (plans, "plan", "ring aim", (RING, "hold")),
    (plans, "moves_of", "ring key value", ((0, 1), 0, ((0, ()), (1, ("left", ((0, ()),)))))),
    (plans, "least_moves", "ring key", (RING, 2)),
    (plans, "way_to", "ring key", (RING, 2)),
    (caps, "fewest_caps", "ring aim", ((0, 0, 0, 0, 0, 0), "key")),
    (caps, "caps_within", "ring aim many", ((0, 0, 1), "key", 2)),
    (alike, "are_alike", "one other", (RING, (2, 1, 0, 0))),
    (alike, "least_ring", "ring", (RING,)),
    (alike, "how_many", "counts", ((2, 2),)),
    (alike, "all_rings", "counts", ((2, 2),)),
    (alike, "lost_from", "ring seen", ((0, 1, 0, 2), (2, 1, 0))),
    (alike, "put_into", "ring seen", ((0, 1), (1, 1, 0))),
    (alike, "rings_with", "keys shapes pieces", (3, 2, ((0, 0, 1), (1, 0)))),
    (wrong, "holds_if_wrong", "ring row wrong", ((0, 1, 2), (0, 2), 1)),
    (wrong, "least_if_wrong", "ring aim wrong", ((0, 1, 2), "key", 1)),
    (which, "least_which", "rings", (((0, 1), (0, 2)),)),
    (which, "alike_in", "rings", (((0, 1), (1, 0, 1, 0)),)),
    (totals, "total_of", "ring aim value", ((0, 1), "key", ((0, ("left", ((1, ()),))), (1, ())))),
    (totals, "least_total", "ring aim", (RING, "hold")),
    (totals, "mean_plan", "ring aim", (RING, "hold")),
    (best, "best_rings", "counts aim", ((2, 1, 1), "hold")),
    (best, "told_rings", "keys shapes many aim", (3, 3, 1, "key")),
    (texts, "write_ring", "ring", (RING,)),
    (texts, "write_least", "ring", (RING,)),
    (texts, "read_ring", "text", ("cab",)),
]

MANY = {"felt": 40, "caps_within": 20, "told_rings": 20}
LENGTHS = {"lost_from": -1, "put_into": 1}


def wrong_for(name, argument, given):
    """The error for one argument, and the values for which it is raised; None where there is no such error."""
    ring = given.get("ring", RING)
    if argument in ("ring", "one", "other"):
        return (BadRing, WRONG_RINGS)
    if argument == "hold":
        return (BadHold, wrong_holds(len(ring)))
    if argument == "many":
        return (BadNumber, wrong_numbers(0, MANY[name]))
    if argument == "aim":
        return (BadAim, WRONG_AIMS)
    if argument == "key":
        return (BadKey, wrong_keys(len(ring)))
    if argument == "counts":
        return (BadCounts, WRONG_COUNTS)
    if argument == "seen":
        many = len(ring) + LENGTHS[name]
        return (BadSeen, wrong_rows(many, many))
    if argument == "row":
        return (BadSeen, wrong_rows(0, 40))
    numbers = {"keys": 6, "shapes": 3}
    if argument in numbers:
        return (BadNumber, wrong_numbers(1, numbers[argument]))
    if argument == "wrong":
        return (BadNumber, wrong_numbers(0, 10))
    if argument == "pieces":
        return (BadPieces, WRONG_PIECES)
    if argument == "rings":
        return (BadRings, [value for value in ANY_VALUES if value not in (((0, 1),),)] + [(), (RING,) * 7, (RING, 0)])
    return None


def cases():
    """All functions, each with its name, the names of its arguments, and values for them."""
    for module, name, arguments, values in FUNCTIONS:
        yield getattr(module, name), name, arguments.split(), values


def changed(values, at, value):
    return values[:at] + (value,) + values[at + 1:]


def spoil(value):
    """Change all lists that are in a value."""
    if isinstance(value, (list, tuple)):
        for part in value:
            spoil(part)
    if isinstance(value, list):
        value.append("more")
        value.reverse()


class InterfaceTest(unittest.TestCase):
    def test_names_and_arguments(self):
        for module, name, arguments, _ in FUNCTIONS:
            with self.subTest(name=name):
                function = getattr(module, name)
                self.assertTrue(inspect.isfunction(function))
                self.assertEqual(function.__module__, module.__name__)
                self.assertEqual(list(inspect.signature(function).parameters), arguments.split())

    def test_modules(self):
        names = sorted({module.__name__ for module, _, _, _ in FUNCTIONS} | {hands.__name__})
        self.assertEqual(names, ["keysfelt." + name for name in (
            "alike", "best", "caps", "hands", "holds", "plans", "texts", "totals", "which", "wrong",
        )])

    def test_hand(self):
        found = vars(hands.Hand)
        self.assertEqual(hands.Hand.__module__, "keysfelt.hands")
        for name, arguments in (
            ("__init__", ["self", "ring", "shape"]), ("feel", ["self", "side", "shape"]), ("undo", ["self"]),
            ("copy", ["self"]), ("__len__", ["self"]),
        ):
            with self.subTest(name=name):
                self.assertEqual(list(inspect.signature(found[name]).parameters), arguments)
        for name in ("holds", "left", "right"):
            self.assertIsInstance(found[name], property)

    def test_kinds_of_values(self):
        kinds = {
            "felt": tuple, "holds_like": list, "least_felt": int, "alike_pair": tuple, "depth_of": int,
            "least_depth": int, "plan": tuple, "moves_of": int, "least_moves": int, "way_to": tuple,
            "fewest_caps": list, "caps_within": list, "are_alike": bool, "least_ring": tuple, "how_many": int,
            "all_rings": list, "lost_from": list, "put_into": list, "rings_with": list, "holds_if_wrong": list,
            "least_if_wrong": int, "least_which": int, "alike_in": tuple, "total_of": int, "least_total": int,
            "mean_plan": tuple, "best_rings": tuple, "told_rings": list, "write_ring": str, "write_least": str,
            "read_ring": tuple,
        }
        for function, name, _, values in cases():
            with self.subTest(name=name):
                self.assertIs(type(function(*values)), kinds[name])
        hand = hands.Hand(RING, 0)
        found = [hand.holds, hand.left, hand.right, hand.feel("right", 0), hand.undo(), hand.undo(), len(hand)]
        self.assertEqual([type(value) for value in found], [list, int, int, list, bool, bool, int])
        self.assertIs(type(hand.copy()), hands.Hand)


class CallsTest(unittest.TestCase):
    def test_equal_calls_give_equal_results(self):
        for function, name, _, values in cases():
            with self.subTest(name=name):
                first = function(*values)
                self.assertIsNotNone(first)
                for other in FUNCTIONS:
                    getattr(other[0], other[1])(*other[3])
                self.assertEqual(function(*deepcopy(values)), first)

    def test_returned_lists_are_new(self):
        for function, name, _, values in cases():
            with self.subTest(name=name):
                found = function(*values)
                before = deepcopy(found)
                spoil(found)
                self.assertEqual(function(*values), before)

    def test_arguments_are_not_changed(self):
        for function, name, arguments, values in cases():
            for at, argument in enumerate(arguments):
                for value in ([0, 1, 2], {0: [1]}, [[0, 1], [0]], ([0], [1, 2]), {"key": ["hold"]}, (["right", []],)):
                    kept = deepcopy(value)
                    with self.subTest(name=name, argument=argument, value=value):
                        if argument == "value":
                            self.assertIsNone(function(*changed(values, at, value)))
                        elif argument != "text":
                            self.assertRaises(FeelError, function, *changed(values, at, value))
                        self.assertEqual(value, kept)

    def test_errors_change_nothing(self):
        for function, name, arguments, values in cases():
            before = function(*values)
            for at, argument in enumerate(arguments):
                if argument not in ("value", "text"):
                    self.assertRaises(FeelError, function, *changed(values, at, None))
            self.assertEqual(function(*values), before)
        self.assertRaises(InvalidText, texts.read_ring, "caz")
        self.assertEqual(texts.read_ring("cab"), (2, 0, 1))


class ErrorsTest(unittest.TestCase):
    def test_each_wrong_argument(self):
        for function, name, arguments, values in cases():
            given = dict(zip(arguments, values))
            for at, argument in enumerate(arguments):
                found = wrong_for(name, argument, given)
                for value in found[1] if found else []:
                    with self.subTest(name=name, argument=argument, value=value):
                        self.assertRaises(found[0], function, *changed(values, at, value))

    def test_all_arguments_have_an_error_but_two(self):
        free = {
            argument for _, name, arguments, values in cases() for argument in arguments
            if wrong_for(name, argument, dict(zip(arguments, values))) is None
        }
        self.assertEqual(free, {"value", "text"})

    def test_the_first_of_two_wrong_arguments(self):
        for function, name, arguments, values in cases():
            given = dict(zip(arguments, values))
            for at, argument in enumerate(arguments):
                found = wrong_for(name, argument, given)
                for later in range(at + 1, len(arguments)):
                    for value in found[1] if found else []:
                        for other in (None, True, [0], "side", 99):
                            both = changed(changed(values, at, value), later, other)
                            with self.subTest(name=name, both=both):
                                self.assertRaises(found[0], function, *both)

    def test_true_and_false_are_not_integers(self):
        for function, name, arguments, values in cases():
            for at, value in enumerate(values):
                for flag in (True, False):
                    wrong_values = [flag] if type(value) is int else []
                    if isinstance(value, tuple) and arguments[at] not in ("value", "hold", "pieces", "rings"):
                        wrong_values += [changed(value, place, flag) for place in range(len(value))]
                    if arguments[at] in ("pieces", "rings"):
                        wrong_values += [value[:1] + ((flag,),)]
                    if arguments[at] == "hold":
                        wrong_values += [(flag, 1), (0, flag)]
                    for changed_value in wrong_values:
                        with self.subTest(name=name, value=changed_value):
                            self.assertRaises(FeelError, function, *changed(values, at, changed_value))

    def test_any_value_that_is_no_plan(self):
        for function in (plans.depth_of, totals.total_of):
            for value in NO_PLANS:
                with self.subTest(function=function, value=value):
                    self.assertIsNone(function(RING, "key", value))
        for value in NO_PLANS:
            self.assertIsNone(plans.moves_of(RING, 0, value))
