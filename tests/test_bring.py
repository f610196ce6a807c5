"""Promise 2, bring: the perfect shuffles that bring the top card to a place, how many and they."""

import unittest

from deckturns.shuffles import bring, perfect

LARGE = (54, 100, 128, 1000, 1022, 4096, 65534, 65536)


def bits_by_powers(place):
    """The place's bits, the highest that is set first, by taking away powers of two."""
    bits = []
    for k in range(15, -1, -1):
        if place >= 2 ** k:
            bits.append(1)
            place -= 2 ** k
        elif bits:
            bits.append(0)
    return bits


def place_of_top_card(n, kinds):
    """Where the top card of n comes to stand, told by places."""
    place = 0
    for inwards in kinds:
        if place < n // 2:
            place = 2 * place + inwards
        else:
            place = 2 * (place - n // 2) + 1 - inwards
    return place


def some_places(n):
    return sorted({0, 1, 2, 3, n // 3, n // 2 - 1, n // 2, n // 2 + 1, n - 2, n - 1} | set(range(0, n, 1 + n // 50)))


class WrittenAnswers(unittest.TestCase):
    def test_place_0_asks_for_no_shuffle(self):
        for n in (2, 4, 10, 52, 65536):
            self.assertEqual(bring(n, 0), [0])

    def test_place_1(self):
        for n in (2, 4, 10, 52, 65536):
            self.assertEqual(bring(n, 1), [1, 1])

    def test_least_n(self):
        self.assertEqual([bring(2, place) for place in (0, 1)], [[0], [1, 1]])

    def test_every_place_of_eight(self):
        self.assertEqual(
            [bring(8, place) for place in range(8)],
            [[0], [1, 1], [2, 1, 0], [2, 1, 1], [3, 1, 0, 0], [3, 1, 0, 1], [3, 1, 1, 0], [3, 1, 1, 1]])

    def test_places_of_a_full_deck(self):
        self.assertEqual(bring(52, 6), [3, 1, 1, 0])
        self.assertEqual(bring(52, 13), [4, 1, 1, 0, 1])
        self.assertEqual(bring(52, 32), [6, 1, 0, 0, 0, 0, 0])
        self.assertEqual(bring(52, 51), [6, 1, 1, 0, 0, 1, 1])

    def test_most_n(self):
        self.assertEqual(bring(65536, 0), [0])
        self.assertEqual(bring(65536, 1), [1, 1])
        self.assertEqual(bring(65536, 32768), [16, 1] + [0] * 15)
        self.assertEqual(bring(65536, 32767), [15] + [1] * 15)
        self.assertEqual(bring(65536, 65535), [16] + [1] * 16)


class AgainstTheWords(unittest.TestCase):
    def test_every_place_of_up_to_a_full_deck(self):
        for n in range(2, 53, 2):
            for place in range(n):
                with self.subTest(n=n, place=place):
                    bits = bits_by_powers(place)
                    self.assertEqual(bring(n, place), [len(bits)] + bits)

    def test_places_of_large_n(self):
        for n in LARGE:
            for place in some_places(n):
                with self.subTest(n=n, place=place):
                    bits = bits_by_powers(place)
                    self.assertEqual(bring(n, place), [len(bits)] + bits)

    def test_every_place_of_most_n(self):
        for place in range(65536):
            bits = bits_by_powers(place)
            self.assertEqual(bring(65536, place), [len(bits)] + bits)


class TheTopCardIsBrought(unittest.TestCase):
    def test_by_perfect_to_every_place_of_up_to_a_full_deck(self):
        for n in range(2, 53, 2):
            for place in range(n):
                with self.subTest(n=n, place=place):
                    deck = list(range(n))
                    for inwards in bring(n, place)[1:]:
                        deck = perfect(inwards, deck)[1:]
                    self.assertEqual(deck.index(0), place)

    def test_by_places_of_large_n(self):
        for n in LARGE:
            for place in some_places(n):
                with self.subTest(n=n, place=place):
                    self.assertEqual(place_of_top_card(n, bring(n, place)[1:]), place)


class FormAndKeeping(unittest.TestCase):
    def test_the_answer_is_a_list_of_how_many_and_as_many_bits(self):
        for n in (2, 4, 52) + LARGE:
            for place in {0, 1, n // 2, n - 1}:
                answer = bring(n, place)
                self.assertIs(type(answer), list)
                self.assertEqual({type(number) for number in answer}, {int})
                self.assertEqual(len(answer), answer[0] + 1)
                self.assertLessEqual(set(answer[1:]), {0, 1})

    def test_nothing_is_kept_between_calls(self):
        for n, place in ((2, 0), (2, 1), (52, 51), (65536, 32768), (65536, 65535)):
            first = bring(n, place)
            again = bring(n, place)
            self.assertEqual(first, again)
            self.assertIsNot(first, again)
            kept = list(first)
            first.append(99)
            bring(10, 7)
            self.assertEqual(bring(n, place), kept)


if __name__ == "__main__":
    unittest.main()
