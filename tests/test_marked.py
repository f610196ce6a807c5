"""Promise 4, marked: 0, then the deck after a shuffle by marks."""

import itertools
import unittest

from deckturns.shuffles import marked
from tests.decks import UnchangingList, new_cards, some_decks, some_marks

EVERY_N = range(53)


def by_packets(deck, marks):
    """The document's own words: packets are cut from the top on, then each place takes its packet's next card."""
    rest = list(deck)
    packets = []
    for number in range(256):
        size = sum(1 for mark in marks if mark == number)
        packets.append(rest[:size])
        rest = rest[size:]
    return [0] + [packets[mark].pop(0) for mark in marks]


class WrittenAnswers(unittest.TestCase):
    def test_empty_deck(self):
        self.assertEqual(marked([], []), [0])

    def test_one_card(self):
        for mark in (0, 1, 77, 255):
            self.assertEqual(marked([0], [mark]), [0, 0])

    def test_two_cards(self):
        self.assertEqual(marked([0, 1], [0, 1]), [0, 0, 1])
        self.assertEqual(marked([0, 1], [1, 0]), [0, 1, 0])
        self.assertEqual(marked([1, 0], [255, 0]), [0, 0, 1])
        self.assertEqual(marked([1, 0], [9, 9]), [0, 1, 0])

    def test_two_packets(self):
        self.assertEqual(marked([0, 1, 2, 3, 4], [1, 0, 1, 0, 0]), [0, 3, 0, 4, 1, 2])
        self.assertEqual(marked([4, 2, 0, 1, 3], [1, 0, 1, 0, 0]), [0, 1, 4, 3, 2, 0])

    def test_three_packets_with_numbers_between_that_stand_nowhere(self):
        self.assertEqual(marked([0, 1, 2, 3, 4, 5], [255, 0, 9, 255, 0, 0]), [0, 4, 0, 3, 5, 1, 2])
        self.assertEqual(marked([5, 3, 1, 0, 2, 4], [255, 0, 9, 255, 0, 0]), [0, 2, 5, 0, 4, 3, 1])

    def test_all_different_marks_of_new_cards_are_their_order(self):
        self.assertEqual(marked([0, 1, 2, 3], [2, 0, 3, 1]), [0, 2, 0, 3, 1])
        self.assertEqual(marked([0, 1, 2, 3], [200, 0, 255, 7]), [0, 2, 0, 3, 1])

    def test_marks_all_alike_leave_the_deck(self):
        for n in EVERY_N:
            for deck in some_decks(n):
                for mark in (0, 1, 255):
                    self.assertEqual(marked(deck, [mark] * n), [0] + deck)

    def test_fifty_two_cards_of_two_halves_by_turns(self):
        expected = [0]
        for k in range(26):
            expected += [26 + k, k]
        self.assertEqual(marked(new_cards(52), [1, 0] * 26), expected)


class AgainstTheWords(unittest.TestCase):
    def test_every_deck_of_up_to_four_cards(self):
        for n in range(5):
            for cards in itertools.permutations(range(n)):
                for marks in itertools.product((0, 1, 2, 255), repeat=n):
                    self.assertEqual(marked(list(cards), list(marks)), by_packets(cards, marks), (cards, marks))

    def test_every_choice_of_marks_for_six_new_cards(self):
        for marks in itertools.product((0, 3, 4), repeat=6):
            self.assertEqual(marked(new_cards(6), list(marks)), by_packets(range(6), marks), marks)

    def test_every_number_of_cards(self):
        for n in EVERY_N:
            for deck in some_decks(n):
                for marks in some_marks(n):
                    self.assertEqual(marked(deck, marks), by_packets(deck, marks), (deck, marks))


class FormAndKeeping(unittest.TestCase):
    def test_the_answer_is_a_list_of_0_and_each_card_once(self):
        for n in EVERY_N:
            for deck in some_decks(n):
                for marks in some_marks(n):
                    answer = marked(deck, marks)
                    self.assertIs(type(answer), list)
                    self.assertEqual({type(number) for number in answer}, {int})
                    self.assertEqual(answer[0], 0)
                    self.assertEqual(sorted(answer[1:]), new_cards(n))

    def test_what_is_handed_in_is_not_changed(self):
        for n in EVERY_N:
            for deck in some_decks(n):
                for marks in some_marks(n):
                    handed_deck, handed_marks = list(deck), list(marks)
                    answer = marked(handed_deck, handed_marks)
                    self.assertIsNot(answer, handed_deck)
                    self.assertIsNot(answer, handed_marks)
                    answer.clear()
                    self.assertEqual((handed_deck, handed_marks), (deck, marks))

    def test_what_is_handed_in_is_not_changed_for_a_while(self):
        for n in (0, 1, 2, 3, 10, 51, 52):
            for deck in some_decks(n):
                for marks in some_marks(n):
                    answer = marked(UnchangingList(deck), UnchangingList(marks))
                    self.assertEqual(answer, by_packets(deck, marks))

    def test_nothing_is_kept_between_calls(self):
        for n in (0, 1, 2, 10, 52):
            deck = new_cards(n)[::-1]
            for marks in some_marks(n):
                first = marked(deck, marks)
                again = marked(deck, marks)
                self.assertEqual(first, again)
                self.assertIsNot(first, again)
                first.append(99)
                marked([2, 0, 1], [1, 0, 0])
                self.assertEqual(marked(deck, marks), by_packets(deck, marks))

    def test_lists_changed_by_their_owner_are_read_anew(self):
        deck, marks = [0, 1, 2], [1, 0, 0]
        self.assertEqual(marked(deck, marks), [0, 2, 0, 1])
        deck.reverse()
        self.assertEqual(marked(deck, marks), [0, 0, 2, 1])
        marks.reverse()
        self.assertEqual(marked(deck, marks), [0, 2, 1, 0])


if __name__ == "__main__":
    unittest.main()
