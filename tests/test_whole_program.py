"""Over the whole program: nothing handed in is changed, nothing is kept, nothing goes deep."""

import copy
import importlib.util
import inspect
import sys
import unittest

from deckturns import shuffles
from tests.decks import UnchangingList, new_cards, some_decks, some_marks

NAMES = ("perfect", "order", "bring", "counted", "marked", "put_in_order", "rising", "ways", "gilbreath")

# Each with its answer as it was reckoned by hand, so that what is compared is not only the program with itself.
SMALL_CALLS = (
    ("perfect", (0, [0, 1, 2, 3]), [0, 0, 2, 1, 3]),
    ("perfect", (1, [0, 1, 2, 3]), [0, 2, 0, 3, 1]),
    ("order", (0, 4), [2]),
    ("order", (1, 4), [4]),
    ("bring", (8, 6), [3, 1, 1, 0]),
    ("bring", (8, 0), [0]),
    ("counted", (5, 2), [0, 1, 3, 0, 4, 2]),
    ("counted", (3, 3), [0, 2, 0, 1]),
    ("marked", ([0, 1, 2], [1, 0, 0]), [0, 2, 0, 1]),
    ("marked", ([2, 1, 0], [0, 9, 0]), [0, 2, 0, 1]),
    ("put_in_order", ([0, 1, 2], [1, 0, 0]), [0, 1, 2, 0]),
    ("put_in_order", ([2, 1, 0], [0, 9, 0]), [0, 2, 0, 1]),
    ("rising", ([2, 0, 1],), [2]),
    ("rising", ([],), [0]),
    ("ways", (3, [1, 0]), [3]),
    ("ways", (0, []), [1]),
    ("gilbreath", ([1, 2, 0],), [1]),
    ("gilbreath", ([0, 2, 1],), [0]),
)


def large_calls():
    calls = [("order", (inwards, n)) for inwards in (0, 1) for n in (2, 52, 200)]
    calls += [("bring", (65536, place)) for place in (0, 1, 32768, 65535)]
    calls += [("counted", (n, step)) for n in (1, 51, 52) for step in (1, 3, 52, 2147483647)]
    for n in (0, 1, 2, 51, 52):
        for deck in some_decks(n):
            if n % 2 == 0:
                calls += [("perfect", (0, deck)), ("perfect", (1, deck))]
            for marks in some_marks(n):
                calls += [("marked", (deck, marks)), ("put_in_order", (deck, marks))]
            calls += [("ways", (packets, deck)) for packets in (0, 1, 52, 1000000)]
            calls += [("rising", (deck,)), ("gilbreath", (deck,))]
    return calls


def answer(module, name, arguments):
    return getattr(module, name)(*arguments)


def loaded_anew():
    """The module as it is when nothing in it was ever called."""
    spec = importlib.util.spec_from_file_location("shuffles_anew", shuffles.__file__)
    module = importlib.util.module_from_spec(spec)
    spec.loader.exec_module(module)
    return module


class EachAsIfForTheFirstTime(unittest.TestCase):
    def test_every_function_is_among_the_calls(self):
        self.assertEqual({name for name, _, _ in SMALL_CALLS}, set(NAMES))
        self.assertEqual({name for name, _ in large_calls()}, set(NAMES))

    def test_twice_with_every_other_call_in_between(self):
        for name, arguments, expected in SMALL_CALLS:
            for between, others, told in SMALL_CALLS:
                with self.subTest(call=name, arguments=arguments, between=between, others=others):
                    self.assertEqual(answer(shuffles, name, arguments), expected)
                    self.assertEqual(answer(shuffles, between, others), told)
                    self.assertEqual(answer(shuffles, name, arguments), expected)

    def test_all_calls_forwards_and_backwards(self):
        calls = large_calls()
        first = [answer(shuffles, name, arguments) for name, arguments in calls]
        again = [answer(shuffles, name, arguments) for name, arguments in reversed(calls)]
        self.assertEqual(again[::-1], first)

    def test_each_call_as_the_first_one_of_all(self):
        for name, arguments, expected in SMALL_CALLS:
            self.assertEqual(answer(loaded_anew(), name, arguments), expected)
        for name in NAMES:
            calls = [call for call in large_calls() if call[0] == name]
            for _, arguments in (calls[0], calls[-1]):
                self.assertEqual(answer(loaded_anew(), name, arguments), answer(shuffles, name, arguments))

    def test_answers_are_the_callers_own(self):
        for name, arguments, expected in SMALL_CALLS:
            answer(shuffles, name, arguments).extend([99, 98])
            self.assertEqual(answer(shuffles, name, arguments), expected)

    def test_the_module_holds_only_functions_without_defaults(self):
        for name, value in vars(shuffles).items():
            if not name.startswith("__"):
                self.assertTrue(inspect.isfunction(value), name)
                self.assertIsNone(value.__defaults__, name)
                self.assertEqual(vars(value), {}, name)


class WhatIsHandedIn(unittest.TestCase):
    def test_it_is_the_same_as_before(self):
        for name, arguments in [call[:2] for call in SMALL_CALLS] + large_calls():
            before = copy.deepcopy(arguments)
            answer(shuffles, name, arguments)
            self.assertEqual(arguments, before, name)

    def test_it_is_not_changed_for_a_while_either(self):
        for name, arguments in [call[:2] for call in SMALL_CALLS] + large_calls():
            unchanging = tuple(UnchangingList(value) if isinstance(value, list) else value for value in arguments)
            self.assertEqual(answer(shuffles, name, unchanging), answer(shuffles, name, arguments), name)

    def test_a_list_handed_in_twice(self):
        deck = UnchangingList([2, 0, 1])
        self.assertEqual(shuffles.marked(deck, deck), [0, 1, 2, 0])
        self.assertEqual(shuffles.put_in_order(deck, deck), [0, 0, 1, 2])


class WhatIsGivenBack(unittest.TestCase):
    def test_it_is_a_list_of_whole_numbers(self):
        for name, arguments in [call[:2] for call in SMALL_CALLS] + large_calls():
            given = answer(shuffles, name, arguments)
            self.assertIs(type(given), list, name)
            self.assertEqual({type(number) for number in given}, {int}, name)

    def test_how_many_numbers_there_are(self):
        for name, arguments in [call[:2] for call in SMALL_CALLS] + large_calls():
            given = answer(shuffles, name, arguments)
            if name in ("order", "rising", "ways", "gilbreath"):
                self.assertEqual(len(given), 1, name)
            elif name == "bring":
                self.assertEqual(len(given), given[0] + 1)
            else:
                n = arguments[0] if name == "counted" else len(arguments[-1])
                self.assertEqual(given[0], 0, name)
                self.assertEqual(sorted(given[1:]), new_cards(n), name)


class Depth(unittest.TestCase):
    def test_few_calls_within_one_another_are_enough(self):
        calls = large_calls()
        limit = sys.getrecursionlimit()
        sys.setrecursionlimit(len(inspect.stack(0)) + 20)
        try:
            for name, arguments in calls:
                answer(shuffles, name, arguments)
        finally:
            sys.setrecursionlimit(limit)


if __name__ == "__main__":
    unittest.main()
