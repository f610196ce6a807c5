"""Promise 4, put_in_order (the words' sorted): 0, then the cards in the order of the marks at their places."""

import itertools
import unittest

from deckturns.shuffles import marked, put_in_order
from tests.decks import UnchangingList, new_cards, some_decks, some_marks

EVERY_N = range(53)


def mark_by_mark(deck, marks):
    """The document's own words: first the cards at the places of the least mark, as they stand, then the next."""
    cards = []
    for number in range(256):
        for card, mark in zip(deck, marks):
            if mark == number:
                cards.append(card)
    return [0] + cards


class WrittenAnswers(unittest.TestCase):
    def test_empty_deck(self):
        self.assertEqual(put_in_order([], []), [0])

    def test_one_card(self):
        for mark in (0, 1, 77, 255):
            self.assertEqual(put_in_order([0], [mark]), [0, 0])

    def test_two_cards(self):
        self.assertEqual(put_in_order([0, 1], [0, 1]), [0, 0, 1])
        self.assertEqual(put_in_order([0, 1], [1, 0]), [0, 1, 0])
        self.assertEqual(put_in_order([1, 0], [255, 0]), [0, 0, 1])
        self.assertEqual(put_in_order([1, 0], [9, 9]), [0, 1, 0])

    def test_like_marks_stay_as_they_stand(self):
        self.assertEqual(put_in_order([0, 1, 2, 3, 4], [1, 0, 1, 0, 0]), [0, 1, 3, 4, 0, 2])
        self.assertEqual(put_in_order([4, 3, 2, 1, 0], [1, 0, 1, 0, 0]), [0, 3, 1, 0, 4, 2])

    def test_numbers_between_that_stand_nowhere(self):
        self.assertEqual(put_in_order([5, 3, 1, 0, 2, 4], [255, 0, 9, 255, 0, 0]), [0, 3, 2, 4, 1, 5, 0])

    def test_the_marks_count_and_not_the_cards(self):
        self.assertEqual(put_in_order([3, 1, 2, 0], [0, 1, 2, 3]), [0, 3, 1, 2, 0])
        self.assertEqual(put_in_order([0, 1, 2, 3], [2, 0, 3, 1]), [0, 1, 3, 0, 2])

    def test_marks_all_alike_leave_the_deck(self):
        for n in EVERY_N:
            for deck in some_decks(n):
                for mark in (0, 1, 255):
                    self.assertEqual(put_in_order(deck, [mark] * n), [0] + deck)

    def test_fifty_two_cards_taken_apart(self):
        expected = [0] + list(range(1, 52, 2)) + list(range(0, 52, 2))
        self.assertEqual(put_in_order(new_cards(52), [255, 0] * 26), expected)


class AgainstTheWords(unittest.TestCase):
    def test_every_deck_of_up_to_four_cards(self):
        for n in range(5):
            for cards in itertools.permutations(range(n)):
                for marks in itertools.product((0, 1, 2, 255), repeat=n):
                    self.assertEqual(put_in_order(list(cards), list(marks)), mark_by_mark(cards, marks), (cards, marks))

    def test_every_number_of_cards(self):
        for n in EVERY_N:
            for deck in some_decks(n):
                for marks in some_marks(n):
                    self.assertEqual(put_in_order(deck, marks), mark_by_mark(deck, marks), (deck, marks))


class MarkedAndPutInOrderAgain(unittest.TestCase):
    def test_every_deck_of_up_to_four_cards(self):
        for n in range(5):
            for cards in itertools.permutations(range(n)):
                for marks in itertools.product((0, 1, 2, 255), repeat=n):
                    shuffled = marked(list(cards), list(marks))[1:]
                    self.assertEqual(put_in_order(shuffled, list(marks)), [0] + list(cards), (cards, marks))

    def test_every_number_of_cards(self):
        for n in EVERY_N:
            for deck in some_decks(n):
                for marks in some_marks(n):
                    self.assertEqual(put_in_order(marked(deck, marks)[1:], marks), [0] + deck, (deck, marks))
                    self.assertEqual(marked(put_in_order(deck, marks)[1:], marks), [0] + deck, (deck, marks))


class FormAndKeeping(unittest.TestCase):
    def test_the_answer_is_a_list_of_0_and_each_card_once(self):
        for n in EVERY_N:
            for deck in some_decks(n):
                for marks in some_marks(n):
                    answer = put_in_order(deck, marks)
                    self.assertIs(type(answer), list)
                    self.assertEqual({type(number) for number in answer}, {int})
                    self.assertEqual(answer[0], 0)
                    self.assertEqual(sorted(answer[1:]), new_cards(n))

    def test_what_is_handed_in_is_not_changed(self):
        for n in EVERY_N:
            for deck in some_decks(n):
                for marks in some_marks(n):
                    handed_deck, handed_marks = list(deck), list(marks)
                    answer = put_in_order(handed_deck, handed_marks)
                    self.assertIsNot(answer, handed_deck)
                    self.assertIsNot(answer, handed_marks)
                    answer.clear()
                    self.assertEqual((handed_deck, handed_marks), (deck, marks))

    def test_what_is_handed_in_is_not_changed_for_a_while(self):
        for n in (0, 1, 2, 3, 10, 51, 52):
            for deck in some_decks(n):
                for marks in some_marks(n):
                    answer = put_in_order(UnchangingList(deck), UnchangingList(marks))
                    self.assertEqual(answer, mark_by_mark(deck, marks))

    def test_nothing_is_kept_between_calls(self):
        for n in (0, 1, 2, 10, 52):
            deck = new_cards(n)[::-1]
            for marks in some_marks(n):
                first = put_in_order(deck, marks)
                again = put_in_order(deck, marks)
                self.assertEqual(first, again)
                self.assertIsNot(first, again)
                first.append(99)
                put_in_order([2, 0, 1], [1, 0, 0])
                self.assertEqual(put_in_order(deck, marks), mark_by_mark(deck, marks))

    def test_lists_changed_by_their_owner_are_read_anew(self):
        deck, marks = [0, 1, 2], [1, 0, 0]
        self.assertEqual(put_in_order(deck, marks), [0, 1, 2, 0])
        deck.reverse()
        self.assertEqual(put_in_order(deck, marks), [0, 1, 0, 2])
        marks.reverse()
        self.assertEqual(put_in_order(deck, marks), [0, 2, 1, 0])


if __name__ == "__main__":
    unittest.main()
