"""Promise 3, counted: round a ring of n new cards each step-th card goes."""

import collections
import unittest

from deckturns.shuffles import counted

MOST_STEP = 2147483647
ORDINARY_STEPS = (1, 2, 3, 4, 5, 7, 8, 10, 13, 25, 26, 27, 51, 52, 53, 54, 60, 99, 104, 105, 200)
LARGE_STEPS = (1000, 65536, 1000000, 1000000007, 2147483646, MOST_STEP)


def counted_card_by_card(n, step):
    """The document's own words: a finger goes from card to card round the ring, and gone cards are passed over."""
    there = [True] * n
    finger = 0
    gone = []
    while len(gone) < n:
        count = 0
        while count < step:
            if there[finger]:
                count += 1
                last = finger
            finger = (finger + 1) % n
        there[last] = False
        gone.append(last)
    return gone


def counted_by_turning(n, step):
    """For large steps: a ring that is turned till the card that goes is at the front."""
    ring = collections.deque(range(n))
    gone = []
    while ring:
        ring.rotate(-((step - 1) % len(ring)))
        gone.append(ring.popleft())
    return gone


class WrittenAnswers(unittest.TestCase):
    def test_one_card(self):
        for step in ORDINARY_STEPS + LARGE_STEPS:
            self.assertEqual(counted(1, step), [0, 0])

    def test_step_1_takes_the_cards_as_they_stand(self):
        for n in (1, 2, 3, 10, 51, 52):
            self.assertEqual(counted(n, 1), [0] + list(range(n)))

    def test_step_2(self):
        self.assertEqual(counted(2, 2), [0, 1, 0])
        self.assertEqual(counted(5, 2), [0, 1, 3, 0, 4, 2])
        self.assertEqual(counted(10, 2), [0, 1, 3, 5, 7, 9, 2, 6, 0, 8, 4])
        self.assertEqual(counted(52, 2)[-1], 40)

    def test_step_3(self):
        self.assertEqual(counted(7, 3), [0, 2, 5, 1, 6, 4, 0, 3])
        self.assertEqual(counted(41, 3)[-2:], [15, 30])

    def test_step_of_n(self):
        self.assertEqual(counted(2, 2), [0, 1, 0])
        self.assertEqual(counted(3, 3), [0, 2, 0, 1])
        self.assertEqual(counted(4, 4), [0, 3, 0, 2, 1])
        self.assertEqual(counted(5, 5), [0, 4, 0, 2, 3, 1])

    def test_step_larger_than_n(self):
        self.assertEqual(counted(2, 3), [0, 0, 1])
        self.assertEqual(counted(3, 4), [0, 0, 2, 1])
        self.assertEqual(counted(4, 10), [0, 1, 2, 0, 3])

    def test_most_step(self):
        self.assertEqual(counted(2, MOST_STEP), [0, 0, 1])
        self.assertEqual(counted(3, MOST_STEP), [0, 0, 1, 2])
        self.assertEqual(counted(4, MOST_STEP), [0, 2, 3, 0, 1])


class AgainstTheWords(unittest.TestCase):
    def test_every_n_with_ordinary_steps(self):
        for n in range(1, 53):
            for step in sorted(set(ORDINARY_STEPS) | {n, n + 1, 2 * n, 2 * n + 1}):
                with self.subTest(n=n, step=step):
                    self.assertEqual(counted(n, step), [0] + counted_card_by_card(n, step))

    def test_few_cards_with_every_step_of_a_while(self):
        for n in range(1, 9):
            for step in range(1, 201):
                with self.subTest(n=n, step=step):
                    self.assertEqual(counted(n, step), [0] + counted_card_by_card(n, step))

    def test_few_cards_with_large_steps(self):
        # 2520 cards are whole rounds of every ring of up to 10 cards, so they can be left out of a step.
        for n in range(1, 11):
            for step in LARGE_STEPS:
                with self.subTest(n=n, step=step):
                    self.assertEqual(counted(n, step), [0] + counted_card_by_card(n, (step - 1) % 2520 + 1))

    def test_every_n_with_large_steps(self):
        for n in range(1, 53):
            for step in LARGE_STEPS:
                with self.subTest(n=n, step=step):
                    self.assertEqual(counted(n, step), [0] + counted_by_turning(n, step))


class FormAndKeeping(unittest.TestCase):
    def test_the_answer_is_a_list_of_0_and_each_card_once(self):
        for n in range(1, 53):
            for step in ORDINARY_STEPS + LARGE_STEPS:
                answer = counted(n, step)
                self.assertIs(type(answer), list)
                self.assertEqual({type(number) for number in answer}, {int})
                self.assertEqual(answer[0], 0)
                self.assertEqual(sorted(answer[1:]), list(range(n)))

    def test_nothing_is_kept_between_calls(self):
        for n, step in ((1, 1), (2, 2), (7, 3), (52, 10), (52, MOST_STEP)):
            first = counted(n, step)
            again = counted(n, step)
            self.assertEqual(first, again)
            self.assertIsNot(first, again)
            kept = list(first)
            first.append(99)
            counted(9, 4)
            self.assertEqual(counted(n, step), kept)


if __name__ == "__main__":
    unittest.main()
