"""Promise 6, ways: in how many ways marks below packets make the deck of new cards, modulo 1000000007."""

import collections
import itertools
import math
import unittest

from deckturns.shuffles import marked, rising, ways
from tests.decks import UnchangingList, new_cards, some_decks

EVERY_N = range(53)
MODULUS = 1000000007
SOME_PACKETS = (0, 1, 2, 3, 26, 51, 52, 53, 54, 255, 256, 1000, 65536, 999999, 1000000)


def tried(packets, n):
    """The document's own words: every choice of marks below packets is tried, and each deck counted that comes."""
    decks = collections.Counter()
    for marks in itertools.product(range(packets), repeat=n):
        decks[tuple(marked(new_cards(n), list(marks))[1:])] += 1
    return decks


def counted_mark_by_mark(packets, deck):
    """For more cards: how many choices end with each mark, card after card, by sums alone."""
    if not deck:
        return 1
    ending_with = [1] * packets
    for card in range(1, len(deck)):
        sums = [0] + list(itertools.accumulate(ending_with))
        # The mark is not below that of the card before, and above it if this card stands ahead of that one.
        risen = 0 if deck.index(card - 1) < deck.index(card) else 1
        ending_with = [sums[mark + 1 - risen] for mark in range(packets)]
    return sum(ending_with)


class WrittenAnswers(unittest.TestCase):
    def test_no_card_has_one_way_the_empty_marks(self):
        for packets in SOME_PACKETS:
            self.assertEqual(ways(packets, []), [1])

    def test_no_packet_has_no_way_for_cards(self):
        for n in range(1, 53):
            for deck in some_decks(n):
                self.assertEqual(ways(0, deck), [0])

    def test_one_packet_leaves_new_cards(self):
        for n in EVERY_N:
            for deck in some_decks(n):
                self.assertEqual(ways(1, deck), [1 if deck == new_cards(n) else 0])

    def test_one_card_has_as_many_ways_as_packets(self):
        for packets in SOME_PACKETS:
            self.assertEqual(ways(packets, [0]), [packets])

    def test_two_cards(self):
        self.assertEqual(ways(2, [0, 1]), [3])
        self.assertEqual(ways(2, [1, 0]), [1])
        self.assertEqual(ways(1000, [0, 1]), [500500])
        self.assertEqual(ways(1000, [1, 0]), [499500])

    def test_two_packets(self):
        self.assertEqual(ways(2, new_cards(52)), [53])
        self.assertEqual(ways(2, [3, 0, 4, 1, 2]), [1])
        self.assertEqual(ways(2, [2, 1, 0]), [0])

    def test_fewer_packets_than_rising_rows(self):
        for n in range(1, 53):
            for deck in some_decks(n):
                rows = rising(deck)[0]
                for packets in {0, rows // 2, rows - 1}:
                    self.assertEqual(ways(packets, deck), [0])

    def test_as_many_packets_as_rising_rows(self):
        for n in range(1, 53):
            for deck in some_decks(n):
                self.assertEqual(ways(rising(deck)[0], deck), [1])

    def test_the_modulo_is_taken(self):
        # 44721 packets are the last for which the ways of two falling cards are below 1000000007.
        self.assertEqual(ways(44721, [1, 0]), [999961560])
        self.assertEqual(ways(44722, [1, 0]), [1000006281 - MODULUS])
        self.assertEqual(ways(1000000, [0, 1]), [500000500000 % MODULUS])
        self.assertEqual(ways(1000000, [1, 0]), [499999500000 % MODULUS])
        self.assertEqual(ways(1000000, [1, 0, 2]), [166666666666500000 % MODULUS])

    def test_most_packets_and_fifty_two_cards(self):
        self.assertEqual(ways(1000000, new_cards(52)), [math.comb(1000051, 52) % MODULUS])
        self.assertEqual(ways(1000000, new_cards(52)[::-1]), [math.comb(1000000, 52) % MODULUS])
        self.assertEqual(ways(52, new_cards(52)[::-1]), [1])
        self.assertEqual(ways(53, new_cards(52)[::-1]), [53])


class AgainstTheWords(unittest.TestCase):
    def test_few_cards_and_few_packets(self):
        for n, most in ((0, 6), (1, 6), (2, 6), (3, 6), (4, 6), (5, 5), (6, 4)):
            for packets in range(most + 1):
                decks = tried(packets, n)
                for cards in itertools.permutations(range(n)):
                    with self.subTest(packets=packets, deck=cards):
                        self.assertEqual(ways(packets, list(cards)), [decks[cards]])

    def test_more_cards_and_two_packets(self):
        for n in range(7, 11):
            decks = tried(2, n)
            for cards, often in decks.items():
                self.assertEqual(ways(2, list(cards)), [often], cards)
            for deck in some_decks(n):
                self.assertEqual(ways(2, deck), [decks[tuple(deck)]], deck)

    def test_every_number_of_cards_by_sums(self):
        for n in EVERY_N:
            for deck in some_decks(n):
                for packets in (0, 1, 2, 3, n, n + 1, 60, 255, 300):
                    with self.subTest(packets=packets, deck=deck):
                        self.assertEqual(ways(packets, deck), [counted_mark_by_mark(packets, deck) % MODULUS])

    def test_all_decks_together_have_every_choice_of_marks(self):
        for n in range(7):
            for packets in (0, 1, 2, 7, 100, 1000000):
                together = sum(ways(packets, list(cards))[0] for cards in itertools.permutations(range(n)))
                self.assertEqual(together % MODULUS, packets ** n % MODULUS)


class FormAndKeeping(unittest.TestCase):
    def test_the_answer_is_a_list_of_one_whole_number_below_the_modulus(self):
        for n in EVERY_N:
            for deck in some_decks(n):
                for packets in SOME_PACKETS:
                    answer = ways(packets, deck)
                    self.assertIs(type(answer), list)
                    self.assertEqual([type(number) for number in answer], [int])
                    self.assertTrue(0 <= answer[0] < MODULUS)

    def test_what_is_handed_in_is_not_changed(self):
        for n in EVERY_N:
            for deck in some_decks(n):
                for packets in SOME_PACKETS:
                    handed = list(deck)
                    self.assertIsNot(ways(packets, handed), handed)
                    self.assertEqual(handed, deck)

    def test_what_is_handed_in_is_not_changed_for_a_while(self):
        for n in EVERY_N:
            for deck in some_decks(n):
                for packets in (0, 1, 60):
                    answer = ways(packets, UnchangingList(deck))
                    self.assertEqual(answer, [counted_mark_by_mark(packets, deck) % MODULUS])

    def test_nothing_is_kept_between_calls(self):
        for n in (0, 1, 2, 10, 52):
            for deck in some_decks(n):
                for packets in (0, 1, 2, 60, 1000000):
                    first = ways(packets, deck)
                    again = ways(packets, deck)
                    self.assertEqual(first, again)
                    self.assertIsNot(first, again)
                    kept = list(first)
                    first.append(99)
                    ways(5, [2, 0, 1])
                    self.assertEqual(ways(packets, deck), kept)

    def test_a_deck_changed_by_its_owner_is_read_anew(self):
        deck = [0, 1]
        self.assertEqual(ways(3, deck), [6])
        deck.reverse()
        self.assertEqual(ways(3, deck), [3])


if __name__ == "__main__":
    unittest.main()
