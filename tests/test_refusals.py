"""What is refused: each wrong thing by itself, in calls that are right otherwise, by every function."""

import unittest

from leverpulls.machines import steps

import calls

FAR = 2147483647
STAY = [[7], [1]]
TWO = [[1, 2], [0, 1, 1, 0]]
THREE = [[1, 2, 3], [1, 1, 1, 1, 1, 1, 1, 1, 1]]
FOUR = [[1, 2, 3, 4], [1] * 16]


class Refusals(unittest.TestCase):
    def refused(self, b, states, machines):
        for name, call in calls.CALLS.items():
            self.assertEqual(call(b, states, machines), [-1], (name, b, states, machines))

    def taken(self, b, states, machines):
        for name, call in calls.CALLS.items():
            answer = call(b, states, machines)
            self.assertTrue(calls.is_taken(name, machines, answer), (name, b, states, machines, answer))

    def test_b(self):
        for b in (0, 100, -1, 101, -50, 1000, FAR, -FAR - 1):
            self.refused(b, [0], STAY)
        for b in (1, 2, 98, 99):
            self.taken(b, [0], STAY)

    def test_four_machines(self):
        self.refused(50, [0, 0, 0, 0], STAY * 4)
        self.refused(50, [0, 0, 0], STAY * 4)
        self.refused(50, [0, 1, 0, 2], STAY + TWO + STAY + THREE)
        self.taken(50, [0, 0, 0], STAY * 3)

    def test_the_count_of_gains(self):
        for gains in ([], [1] * 5, [1] * 6):
            bad = [gains, [1] * len(gains) ** 2]
            self.refused(50, [0], bad)
            self.refused(50, [0, 0], bad + STAY)
            self.refused(50, [0, 0], STAY + bad)
            self.refused(50, [0, 0, 0], STAY + TWO + bad)
        self.refused(50, [0], [[], [1]])
        for machine in (STAY, TWO, THREE, FOUR):
            self.taken(50, [0], machine)

    def test_the_count_of_weights(self):
        for gains, weights in ((STAY[0], []), (STAY[0], [1, 1]), (TWO[0], [1] * 3), (TWO[0], [1] * 5),
                               (TWO[0], [1, 1]), (THREE[0], [1] * 8), (THREE[0], [1] * 10),
                               (FOUR[0], [1] * 15), (FOUR[0], [1] * 17), (FOUR[0], [1] * 36), (FOUR[0], [])):
            self.refused(50, [0], [gains, weights])
            self.refused(50, [0, 0], [gains, weights] + STAY)
            self.refused(50, [0, 0], STAY + [gains, weights])

    def test_gains(self):
        for gain in (-1001, 1001, -FAR - 1, FAR):
            self.refused(50, [0], [[gain], [1]])
            for place in range(3):
                gains = [1, 2, 3]
                gains[place] = gain
                self.refused(50, [0], [gains, THREE[1]])
                self.refused(50, [0, 1, 0], STAY + TWO + [gains, THREE[1]])
        self.taken(50, [0], [[-1000, 1000], TWO[1]])

    def test_weights(self):
        for weight in (-1, 101, -FAR - 1, FAR):
            self.refused(50, [0], [[1], [weight]])
            for place in range(4):
                weights = [50, 50, 50, 50]
                weights[place] = weight
                self.refused(50, [0], [TWO[0], weights])
                self.refused(50, [0, 0], STAY + [TWO[0], weights])
        self.taken(50, [0], [TWO[0], [0, 100, 100, 0]])

    def test_a_row_of_weights_whose_sum_is_0(self):
        self.refused(50, [0], [[1], [0]])
        self.refused(50, [0], [TWO[0], [0, 0, 1, 1]])
        self.refused(50, [0], [TWO[0], [1, 1, 0, 0]])
        self.refused(50, [0, 0], THREE + [TWO[0], [1, 0, 0, 0]])
        # even where that state is never come to
        self.refused(50, [0], [THREE[0], [1, 0, 0, 1, 0, 0, 0, 0, 0]])
        # a column of 0 is no row of 0
        self.taken(50, [0], [TWO[0], [0, 1, 0, 1]])

    def test_the_count_of_states(self):
        self.refused(50, [], STAY)
        self.refused(50, [0, 0], STAY)
        self.refused(50, [0], STAY + TWO)
        self.refused(50, [0, 0, 0], STAY + TWO)
        self.refused(50, [0, 0], STAY + TWO + THREE)
        self.refused(50, [0, 0, 0, 0], STAY + TWO + THREE)
        self.refused(50, [0, 0, 0, 0, 0], STAY + TWO + THREE)

    def test_states(self):
        for state in (-1, -2, -FAR - 1, FAR):
            self.refused(50, [state], TWO)
            self.refused(50, [0, state], STAY + TWO)
        for count, machine in enumerate((STAY, TWO, THREE, FOUR), start=1):
            self.refused(50, [count], machine)
            self.refused(50, [0, count], STAY + machine)
            self.refused(50, [count, 0], machine + TWO)
            self.taken(50, [count - 1], machine)
        # a state of the other machine's count
        self.refused(50, [2, 0], TWO + THREE)
        self.taken(50, [1, 2], TWO + THREE)

    def test_several_wrong_things_are_one_refusal(self):
        self.refused(0, [], [[], []])
        self.refused(100, [9, 9], [[5000], [0], [], [1]] + STAY)


class RefusalsOfSteps(unittest.TestCase):
    def test_k(self):
        for k in (-1, 21, -2, 22, 1000, FAR, -FAR - 1):
            self.assertEqual(steps(50, k, [0], STAY), [-1], k)
            self.assertEqual(steps(50, k, [0, 1], STAY + TWO), [-1], k)
        for k in (0, 1, 19, 20):
            self.assertEqual(steps(50, k, [0], STAY)[0], 0, k)

    def test_no_pull_at_all_is_refused_all_the_same(self):
        for b, states, machines in ((0, [0], STAY), (100, [0], STAY), (50, [1], STAY), (50, [], STAY),
                                    (50, [0], [[], []]), (50, [0], [[1001], [1]]), (50, [0], [[1], [0]]),
                                    (50, [0], [[1], [101]]), (50, [0] * 4, STAY * 4)):
            self.assertEqual(steps(b, 0, states, machines), [-1], (b, states, machines))

    def test_k_wrong_beside_other_wrong_things(self):
        self.assertEqual(steps(0, -1, [], [[], []]), [-1])
        self.assertEqual(steps(100, 21, [5], [[1001], [0]]), [-1])


if __name__ == "__main__":
    unittest.main()
