import itertools
import unittest

from tests.helper import answered, fact, first, order, rule, state_after

PERMUTATIONS = list(itertools.permutations((0, 1, 2)))


class Order(unittest.TestCase):
    def test_each_of_the_six_orders_is_taken(self):
        self.assertEqual(len(PERMUTATIONS), 6)
        for three in PERMUTATIONS:
            self.assertEqual(answered(order(*three)), [0])
            self.assertEqual(state_after(order(*three))[3], three)

    def test_the_last_one_told_counts(self):
        for three in PERMUTATIONS:
            self.assertEqual(answered(order(1, 2, 0), order(*three)), [0, 0])
            self.assertEqual(state_after(order(1, 2, 0), order(*three))[3], three)

    def test_the_same_order_twice(self):
        self.assertEqual(answered(order(0, 1, 2), order(0, 1, 2)), [0, 0])

    def test_none(self):
        self.assertEqual(answered(order()), [-1])

    def test_every_wrong_order_of_up_to_five(self):
        for length in range(6):
            for three in itertools.product((0, 1, 2), repeat=length):
                if three not in PERMUTATIONS:
                    self.assertEqual(answered(order(*three)), [-1], three)

    def test_longer_ones(self):
        for three in ((0, 1, 2) * 2, (0, 1, 2, 0), (2,) * 10, (0, 1, 2, 0, 1, 2, 0, 1, 2, 0)):
            self.assertEqual(answered(order(*three), fact(1)), [-1, 1])

    def test_a_refusal_changes_nothing(self):
        told = [order(2, 0, 1), fact(4), rule(4), rule(-4), first(1, 0)]
        for three in ((), (1,), (0, 1), (0, 0, 1), (1, 1, 1), (0, 1, 2, 2), (1,) * 10):
            self.assertEqual(state_after(*told, order(*three)), state_after(*told))
            self.assertEqual(state_after(order(*three))[3], (0, 1, 2))

    def test_nothing_else_is_changed(self):
        told = [fact(4), rule(4), rule(-4), first(1, 0)]
        self.assertEqual(state_after(*told, order(2, 1, 0))[:3], state_after(*told)[:3])


if __name__ == "__main__":
    unittest.main()
