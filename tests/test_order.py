"""Promise 5: order answers 0 and the machines' numbers, a greater rate first, of equal rates the lower number."""

import itertools
import unittest

from leverpulls.machines import order, rate

import exact
import samples

ONCE = [0, 1, 0, 1]
TO_AND_FRO = [[3, 6], [0, 1, 1, 0]]
CLIMB = [0, 1, 0, 0, 0, 0, 1, 0, 0, 0, 0, 1, 0, 0, 0, 1]
# goes on with a chance of 1 in 101 to where, two steps later, it gains
RARE = [100, 1, 0, 0, 0, 0, 1, 0, 0, 0, 0, 1, 0, 0, 0, 1]


def stay(gain):
    return [[gain], [1]]


class ByRates(unittest.TestCase):
    def test_one_machine(self):
        self.assertEqual(order(50, [0], stay(5)), [0, 0])
        self.assertEqual(order(50, [0], stay(-5)), [0, 0])
        self.assertEqual(order(50, [1], TO_AND_FRO), [0, 0])

    def test_two_machines(self):
        self.assertEqual(order(50, [0, 0], stay(4) + stay(3)), [0, 0, 1])
        self.assertEqual(order(50, [0, 0], stay(3) + stay(4)), [0, 1, 0])
        self.assertEqual(order(50, [0, 0], stay(-3) + stay(-4)), [0, 0, 1])
        self.assertEqual(order(50, [0, 0], stay(-4) + stay(-3)), [0, 1, 0])

    def test_three_machines_in_every_order(self):
        for gains, expected in (((3, 2, 1), [0, 1, 2]), ((3, 1, 2), [0, 2, 1]), ((2, 3, 1), [1, 0, 2]),
                                ((1, 3, 2), [1, 2, 0]), ((2, 1, 3), [2, 0, 1]), ((1, 2, 3), [2, 1, 0])):
            machines = stay(gains[0]) + stay(gains[1]) + stay(gains[2])
            self.assertEqual(order(50, [0, 0, 0], machines), [0] + expected, gains)
            machines = stay(gains[0] - 2) + stay(gains[1] - 2) + stay(gains[2] - 2)
            self.assertEqual(order(50, [0, 0, 0], machines), [0] + expected, gains)

    def test_three_machines_that_differ_in_every_order(self):
        # 0 and then 100: 50; 3 and then 6 and so on: 4; 10 and then 0: 10
        rated = [(50, [[0, 100], ONCE]), (4, TO_AND_FRO), (10, [[10, 0], ONCE])]
        for row in itertools.permutations(rated):
            rates = [y for y, machine in row]
            expected = [rates.index(50), rates.index(10), rates.index(4)]
            self.assertEqual(order(50, [0, 0, 0], row[0][1] + row[1][1] + row[2][1]), [0] + expected, rates)

    def test_the_state_decides(self):
        machines = TO_AND_FRO + stay(5) + [[9, 1], ONCE]
        self.assertEqual(order(50, [0, 0, 0], machines), [0, 2, 1, 0])
        self.assertEqual(order(50, [1, 0, 0], machines), [0, 2, 0, 1])
        self.assertEqual(order(50, [0, 0, 1], machines), [0, 1, 0, 2])
        self.assertEqual(order(50, [1, 0, 1], machines), [0, 0, 1, 2])

    def test_not_by_the_gains_at_hand(self):
        # 0 and then 100 for ever, 90 at b 90, against 10 for ever, and 80 for ever
        machines = stay(10) + [[0, 100], ONCE] + stay(80)
        self.assertEqual(order(90, [0, 0, 0], machines), [0, 1, 2, 0])
        # 50 at b 50, and 5 at b 5
        self.assertEqual(order(50, [0, 0, 0], machines), [0, 2, 1, 0])
        self.assertEqual(order(5, [0, 0, 0], machines), [0, 2, 0, 1])

    def test_not_by_what_a_machine_is_worth_alone(self):
        # 10 and then nothing is worth less than 9 for ever, but is rated 10
        self.assertEqual(order(90, [0, 0], stay(9) + [[10, 0], ONCE]), [0, 1, 0])
        self.assertEqual(order(90, [0, 0], [[10, -1000], ONCE] + stay(9)), [0, 0, 1])


class EqualRates(unittest.TestCase):
    def test_equal_machines(self):
        self.assertEqual(order(50, [0, 0], stay(4) * 2), [0, 0, 1])
        self.assertEqual(order(50, [0, 0, 0], stay(4) * 3), [0, 0, 1, 2])
        self.assertEqual(order(70, [0, 0, 0], TO_AND_FRO * 3), [0, 0, 1, 2])
        self.assertEqual(order(70, [0, 1, 1], TO_AND_FRO * 3), [0, 1, 2, 0])
        self.assertEqual(order(70, [0, 1, 0], TO_AND_FRO * 3), [0, 1, 0, 2])

    def test_two_equal_and_one_above_or_below(self):
        self.assertEqual(order(50, [0, 0, 0], stay(4) + stay(4) + stay(5)), [0, 2, 0, 1])
        self.assertEqual(order(50, [0, 0, 0], stay(4) + stay(5) + stay(4)), [0, 1, 0, 2])
        self.assertEqual(order(50, [0, 0, 0], stay(5) + stay(4) + stay(4)), [0, 0, 1, 2])
        self.assertEqual(order(50, [0, 0, 0], stay(4) + stay(4) + stay(3)), [0, 0, 1, 2])
        self.assertEqual(order(50, [0, 0, 0], stay(4) + stay(3) + stay(4)), [0, 0, 2, 1])
        self.assertEqual(order(50, [0, 0, 0], stay(3) + stay(4) + stay(4)), [0, 1, 2, 0])

    def test_machines_that_differ(self):
        # 3 + 6/2 = 4 + 4/2; 4 and then nothing; 0 and then 8 for ever: all rated 4
        rated = [TO_AND_FRO, stay(4), [[4, 0], ONCE], [[0, 8], ONCE]]
        for a, b in itertools.permutations(rated, 2):
            self.assertEqual(order(50, [0, 0], a + b), [0, 0, 1])
        for a, b, c in itertools.permutations(rated, 3):
            self.assertEqual(order(50, [0, 0, 0], a + b + c), [0, 0, 1, 2])
            self.assertEqual(order(50, [0, 0, 0], stay(3) + b + c), [0, 1, 2, 0])

    def test_equal_rates_that_are_no_whole_numbers(self):
        # 6/2 + 3/4 in 7/4 steps, 15/7, by weights of unlike sums
        a = [[0, 6, 3, 0], CLIMB]
        b = [[0, 6, 3, 0], [weight * 7 for weight in CLIMB[:8]] + [weight * 100 for weight in CLIMB[8:]]]
        self.assertEqual(order(50, [0, 0], a + b), [0, 0, 1])
        self.assertEqual(order(50, [0, 0], b + a), [0, 0, 1])
        # 1/3 and 33/99 of a chance
        a, b = [[0, 9], [2, 1, 0, 1]], [[0, 9], [66, 33, 0, 77]]
        self.assertEqual(order(70, [0, 0], a + b), [0, 0, 1])
        self.assertEqual(order(70, [0, 0], b + a), [0, 0, 1])


class Edges(unittest.TestCase):
    def test_b_1(self):
        # 0.99 of 1 and 0.01 of 1000, 10.99
        machine = [[1, 1000], ONCE]
        self.assertEqual(order(1, [0, 0, 0], stay(10) + machine + stay(11)), [0, 2, 1, 0])
        # 0.01 of 1000, just 10
        self.assertEqual(order(1, [0, 0], stay(10) + [[0, 1000], ONCE]), [0, 0, 1])
        self.assertEqual(order(1, [0, 0], [[0, 1000], ONCE] + stay(10)), [0, 0, 1])

    def test_b_99(self):
        # 0.01 of -1000 and 0.99 of 1000, just 980
        machine = [[-1000, 1000], ONCE]
        self.assertEqual(order(99, [0, 0, 0], stay(979) + machine + stay(981)), [0, 2, 1, 0])
        self.assertEqual(order(99, [0, 0, 0], stay(980) + machine + stay(979)), [0, 0, 1, 2])
        self.assertEqual(order(99, [0, 0, 0], machine + stay(979) + stay(980)), [0, 0, 2, 1])

    def test_the_greatest_and_the_least_gain(self):
        self.assertEqual(order(50, [0, 0, 0], stay(-1000) + stay(1000) + stay(999)), [0, 1, 2, 0])
        self.assertEqual(order(50, [0, 0, 0], stay(-1000) + stay(-999) + stay(-1000)), [0, 1, 0, 2])
        self.assertEqual(order(50, [0, 0, 0], stay(-1000) + stay(1000) + stay(-1000)), [0, 1, 0, 2])

    def test_weights_of_0_and_100(self):
        # 8/3: never to 1000, whose weight is 0
        machine = [[2, 4, 1000], [100, 100, 0, 0, 100, 0, 0, 0, 100]]
        self.assertEqual(order(50, [0, 0, 0], stay(2) + stay(3) + machine), [0, 1, 2, 0])
        self.assertEqual(order(50, [0, 0, 1], stay(4) + stay(3) + machine), [0, 0, 2, 1])
        self.assertEqual(order(50, [0, 0, 2], stay(4) + stay(999) + machine), [0, 2, 1, 0])

    def test_less_than_a_millionth_apart(self):
        # a millionth by a chance of 1 in 101, by none, and twice as much
        none, one, two = [[[0, 0, 0, gain], RARE] for gain in (0, 1, 2)]
        for a, b in ((one, none), (two, one), (two, none), (one, stay(0))):
            self.assertEqual(rate(1, [0, 0], a + b), [0, 0, 0])
            self.assertEqual(order(1, [0, 0], a + b), [0, 0, 1])
            self.assertEqual(order(1, [0, 0], b + a), [0, 1, 0])
        self.assertEqual(order(1, [0, 0], none + two), [0, 1, 0])
        self.assertEqual(order(1, [0, 0], two + two), [0, 0, 1])

    def test_less_than_a_millionth_apart_above_and_below_0(self):
        for gain in (-7, 500):
            more = [[gain, gain, gain, gain + 1], RARE]
            self.assertEqual(order(1, [0, 0, 0], stay(gain) + more + stay(gain)), [0, 1, 0, 2])
            self.assertEqual(order(1, [0, 0, 0], more + stay(gain) + more), [0, 0, 2, 1])

    def test_three_machines_of_24_joint_states(self):
        # 50, 4 and 15/7; spent: 100, 0 and 0
        two = [[0, 100], ONCE]
        three = [[2, 8, 0], [0, 1, 0, 0, 0, 1, 0, 0, 1]]
        four = [[0, 6, 3, 0], CLIMB]
        self.assertEqual(order(50, [0, 0, 0], two + three + four), [0, 0, 1, 2])
        self.assertEqual(order(50, [0, 0, 0], four + three + two), [0, 2, 1, 0])
        self.assertEqual(order(50, [1, 0, 0], four + two + three), [0, 1, 0, 2])
        self.assertEqual(order(50, [2, 3, 1], three + four + two), [0, 2, 0, 1])
        self.assertEqual(order(50, [3, 2, 1], four + three + two), [0, 2, 0, 1])


class AgainstFractions(unittest.TestCase):
    def check(self, b, states, machines):
        rates = []
        for i, state in enumerate(states):
            machine = machines[2 * i:2 * i + 2]
            rates.append(exact.rate_by_sets(b, state, machine))
            pulled, ended = exact.pulled_or_ended(b, rates[i], state, machine)
            self.assertEqual(pulled, ended)
        expected = sorted(range(len(rates)), key=lambda i: (-rates[i], i))
        self.assertEqual(order(b, states, machines), [0] + expected, (b, states, machines))
        return len(set(rates)) < len(rates)

    def test_many_machines(self):
        for seed in range(60):
            numbers = samples.numbers_from(11000 + seed)
            counts = [[2, 2], [3, 2], [1, 4], [2, 3, 4], [4, 3, 2], [3, 4, 2]][seed % 6]
            machines = samples.machines_of(numbers, counts, 1000 if seed % 3 else 6)
            self.check((1, 99, 1 + next(numbers) % 99)[seed % 3], samples.states_of(numbers, counts), machines)

    def test_machines_of_often_equal_rates(self):
        equal = 0
        for seed in range(60):
            numbers = samples.numbers_from(12000 + seed)
            machines = samples.plain_machines_of(numbers, [2, 4, 3])
            equal += self.check(1 + next(numbers) % 99, samples.states_of(numbers, [2, 4, 3]), machines)
        self.assertGreater(equal, 10)


if __name__ == "__main__":
    unittest.main()
