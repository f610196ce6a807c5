"""Promise 7, gilbreath: 1 if the deck comes of new cards laid off in part and shuffled once, else 0."""

import itertools
import unittest

from deckturns.shuffles import gilbreath, marked
from tests.decks import UnchangingList, new_cards, some_decks

EVERY_N = range(53)


def laid_off(n, top):
    """The top cards laid off one by one, each onto the one before, and the rest: two packets."""
    pile = []
    for card in range(top):
        pile.insert(0, card)
    return pile, list(range(top, n))


def taken_by_marks(packets, marks):
    packets = [list(packet) for packet in packets]
    return [packets[mark].pop(0) for mark in marks]


def all_that_come(n):
    """The document's own words: every number of top cards, and all marks 0 and 1 that fit the packets."""
    decks = set()
    for top in range(n + 1):
        for ones in itertools.combinations(range(n), n - top):
            marks = [1 if place in ones else 0 for place in range(n)]
            decks.add(tuple(taken_by_marks(laid_off(n, top), marks)))
    return decks


def some_that_come(n):
    decks = []
    for top in sorted({0, 1, n // 3, n // 2, n - 1, n} & set(range(n + 1))):
        zeros_first = [0] * top + [1] * (n - top)
        strewn = [zeros_first[(k + 1) * 59 % (n + 1) - 1] for k in range(n)]
        for marks in (zeros_first, zeros_first[::-1], strewn, strewn[::-1]):
            decks.append(taken_by_marks(laid_off(n, top), marks))
    return decks


class WrittenAnswers(unittest.TestCase):
    def test_empty_deck(self):
        self.assertEqual(gilbreath([]), [1])

    def test_one_card(self):
        self.assertEqual(gilbreath([0]), [1])

    def test_two_cards(self):
        self.assertEqual(gilbreath([0, 1]), [1])
        self.assertEqual(gilbreath([1, 0]), [1])

    def test_three_cards(self):
        for deck in ([0, 1, 2], [1, 0, 2], [1, 2, 0], [2, 1, 0]):
            self.assertEqual(gilbreath(deck), [1])
        for deck in ([0, 2, 1], [2, 0, 1]):
            self.assertEqual(gilbreath(deck), [0])

    def test_ten_cards(self):
        self.assertEqual(gilbreath([3, 4, 5, 2, 1, 6, 7, 8, 0, 9]), [1])
        self.assertEqual(gilbreath([3, 4, 5, 2, 1, 6, 8, 7, 0, 9]), [0])
        self.assertEqual(gilbreath([3, 4, 5, 2, 0, 1, 6, 7, 8, 9]), [0])

    def test_new_cards_come_with_none_laid_off(self):
        for n in EVERY_N:
            self.assertEqual(gilbreath(new_cards(n)), [1])

    def test_falling_cards_come_with_all_laid_off(self):
        for n in EVERY_N:
            self.assertEqual(gilbreath(new_cards(n)[::-1]), [1])

    def test_fifty_two_cards_that_come(self):
        by_turns = []
        for k in range(26):
            by_turns += [25 - k, 26 + k]
        self.assertEqual(gilbreath(by_turns), [1])
        self.assertEqual(gilbreath(list(range(1, 52)) + [0]), [1])
        self.assertEqual(gilbreath(list(range(50, -1, -1)) + [51]), [1])

    def test_fifty_two_cards_that_do_not_come(self):
        self.assertEqual(gilbreath(list(range(50)) + [51, 50]), [0])
        self.assertEqual(gilbreath([51] + list(range(51))), [0])
        self.assertEqual(gilbreath([0, 51] + list(range(1, 51))), [0])
        self.assertEqual(gilbreath(list(range(26, 52)) + list(range(26))), [0])
        self.assertEqual(gilbreath(list(range(51, 1, -1)) + [0, 1]), [0])


class AgainstTheWords(unittest.TestCase):
    def test_every_deck_of_up_to_seven_cards(self):
        for n in range(8):
            come = all_that_come(n)
            for cards in itertools.permutations(range(n)):
                with self.subTest(deck=cards):
                    self.assertEqual(gilbreath(list(cards)), [1 if cards in come else 0])

    def test_every_deck_of_few_cards_by_marked(self):
        for n in range(6):
            come = set()
            for marks in itertools.product((0, 1), repeat=n):
                pile, rest = laid_off(n, marks.count(0))
                come.add(tuple(marked(pile + rest, list(marks))[1:]))
            for cards in itertools.permutations(range(n)):
                self.assertEqual(gilbreath(list(cards)), [1 if cards in come else 0], cards)

    def test_every_number_of_cards_that_come(self):
        for n in EVERY_N:
            for deck in some_that_come(n):
                self.assertEqual(sorted(deck), new_cards(n))
                self.assertEqual(gilbreath(deck), [1], deck)

    def test_every_number_of_cards_by_the_rest_of_division(self):
        # Of the decks that come, and of no others, each number of top cards has all rests when divided by it.
        for n in EVERY_N:
            for deck in some_decks(n) + some_that_come(n):
                comes = all(len({card % k for card in deck[:k]}) == k for k in range(1, n + 1))
                self.assertEqual(gilbreath(deck), [1 if comes else 0], deck)

    def test_two_cards_changed_over(self):
        for n in range(3, 53):
            for deck in some_that_come(n):
                for place in range(n - 1):
                    other = deck[:place] + [deck[place + 1], deck[place]] + deck[place + 2:]
                    comes = all(max(other[:k]) - min(other[:k]) == k - 1 for k in range(1, n + 1))
                    self.assertEqual(gilbreath(other), [1 if comes else 0], other)


class FormAndKeeping(unittest.TestCase):
    def test_the_answer_is_a_list_of_one_whole_number(self):
        for n in EVERY_N:
            for deck in some_decks(n) + some_that_come(n):
                answer = gilbreath(deck)
                self.assertIs(type(answer), list)
                self.assertEqual([type(number) for number in answer], [int])
                self.assertIn(answer[0], (0, 1))

    def test_what_is_handed_in_is_not_changed(self):
        for n in EVERY_N:
            for deck in some_decks(n) + some_that_come(n):
                handed = list(deck)
                self.assertIsNot(gilbreath(handed), handed)
                self.assertEqual(handed, deck)

    def test_what_is_handed_in_is_not_changed_for_a_while(self):
        for n in EVERY_N:
            for deck in some_decks(n) + some_that_come(n):
                self.assertEqual(gilbreath(UnchangingList(deck)), gilbreath(list(deck)))

    def test_nothing_is_kept_between_calls(self):
        for n in (0, 1, 2, 3, 10, 52):
            for deck in some_decks(n) + some_that_come(n):
                first = gilbreath(deck)
                again = gilbreath(deck)
                self.assertEqual(first, again)
                self.assertIsNot(first, again)
                kept = list(first)
                first.append(99)
                gilbreath([2, 0, 1])
                gilbreath([2, 1, 0])
                self.assertEqual(gilbreath(deck), kept)

    def test_a_deck_changed_by_its_owner_is_read_anew(self):
        deck = [0, 2, 1]
        self.assertEqual(gilbreath(deck), [0])
        deck.reverse()
        self.assertEqual(gilbreath(deck), [1])


if __name__ == "__main__":
    unittest.main()
