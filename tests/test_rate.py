"""Promise 4: rate answers 0 and each machine's rate in its state, in millionths, downwards."""

import unittest

from leverpulls.machines import rate

import exact
import samples

ONCE = [0, 1, 0, 1]
CLIMB = [0, 1, 0, 0, 0, 0, 1, 0, 0, 0, 0, 1, 0, 0, 0, 1]
RING = [0, 1, 0, 0, 0, 0, 1, 0, 0, 0, 0, 1, 1, 0, 0, 0]
RARE = [100, 1, 0, 0, 0, 0, 1, 0, 0, 0, 0, 1, 0, 0, 0, 1]


class RateCase(unittest.TestCase):
    def rates(self, b, machine, expected):
        """The rates of a machine in all its states, in millionths."""
        self.assertEqual([rate(b, [s], machine) for s in range(len(machine[0]))], [[0, y] for y in expected])


class OneState(RateCase):
    def test_the_rate_is_the_gain(self):
        for b in (1, 50, 99):
            for gain in (-1000, -7, -1, 0, 1, 7, 1000):
                self.rates(b, [[gain], [1]], [gain * 1000000])

    def test_the_size_of_a_lone_weight_does_not_matter(self):
        self.rates(50, [[7], [100]], [7000000])


class TwoStates(RateCase):
    def test_states_that_stay(self):
        self.rates(50, [[3, 8], [1, 0, 0, 1]], [3000000, 8000000])

    def test_little_that_leads_to_much(self):
        # 0 and then 100 for ever, 900 at b 90, as 90 for ever
        self.rates(90, [[0, 100], ONCE], [90000000, 100000000])
        self.rates(50, [[0, 100], ONCE], [50000000, 100000000])

    def test_much_that_leads_to_little(self):
        # one ends after the first pull
        self.rates(90, [[100, 0], ONCE], [100000000, 0])
        self.rates(90, [[100, -1000], ONCE], [100000000, -1000000000])

    def test_to_and_fro(self):
        # 3 + 6/2 = 4 + 4/2; from 6 on one ends after one pull
        self.rates(50, [[3, 6], [0, 1, 1, 0]], [4000000, 6000000])

    def test_by_chance(self):
        # x = 1/2 (3/4 x + 1/4 24): 5/8 x = 3, x = 4.8, as 2.4 for ever
        self.rates(50, [[0, 12], [3, 1, 0, 7]], [2400000, 12000000])

    def test_a_chance_to_come_back(self):
        # from 2 on, for ever: x = 2 + 1/2 (x/2 + y/2), y = 12 + x/2: x = 8, as 4 for ever
        self.rates(50, [[2, 12], [1, 1, 1, 0]], [4000000, 12000000])

    def test_all_below_0(self):
        # -8 and then -2 for ever: -8 - 2 = -10, as -5 for ever
        self.rates(50, [[-8, -2], ONCE], [-5000000, -2000000])


class ThreeStates(RateCase):
    def test_up_to_the_top(self):
        # 1 + 10/2 + 200/4 = 56, as 28 for ever; 10 + 200/2 = 110, as 55 for ever
        self.rates(50, [[1, 10, 100], [0, 1, 0, 0, 0, 1, 0, 0, 1]], [28000000, 55000000, 100000000])

    def test_down_from_the_top(self):
        self.rates(50, [[10, 4, 0], [0, 1, 0, 0, 0, 1, 0, 0, 1]], [10000000, 4000000, 0])

    def test_over_the_top(self):
        # 2 + 8/2 = 6, as 4 in each of two steps; then one ends
        self.rates(50, [[2, 8, 0], [0, 1, 0, 0, 0, 1, 0, 0, 1]], [4000000, 8000000, 0])

    def test_what_comes_by_chance_decides_whether_one_ends(self):
        # 8 for ever by a quarter, else one ends: 1 + 1/2 16/4 = 3, in 1 + 1/2 2/4 = 5/4 steps
        self.rates(50, [[1, 8, 0], [0, 1, 3, 0, 1, 0, 0, 0, 1]], [2400000, 8000000, 0])

    def test_round_and_round(self):
        # 6/2 + 5/4 = 17/4 in 7/4 steps, 17/7, and round again; from 6 and from 5 on one ends after one pull
        self.rates(50, [[0, 6, 5], [0, 1, 0, 0, 0, 1, 1, 0, 0]], [2428571, 6000000, 5000000])


class FourStates(RateCase):
    def test_over_the_top(self):
        # 6/2 + 3/4 = 15/4 in 7/4 steps; 6; 3; 0
        self.rates(50, [[0, 6, 3, 0], CLIMB], [2142857, 6000000, 3000000, 0])

    def test_for_ever_if_what_comes_last_is_no_less(self):
        # -10 + 6/2 + 3/4 = -25/4, as -25/8 for ever, more than in 7/4 steps
        self.rates(50, [[-10, 6, 3, 0], CLIMB], [-3125000, 6000000, 3000000, 0])

    def test_thirds(self):
        # 0, then 3, 6 or 9 for ever by a third each: 1/2 (6 + 12 + 18)/3 = 6, as 3 for ever,
        # and the same if one ends where it is 3
        third = [0, 1, 1, 1, 0, 1, 0, 0, 0, 0, 1, 0, 0, 0, 0, 1]
        self.rates(50, [[0, 3, 6, 9], third], [3000000, 3000000, 6000000, 9000000])

    def test_a_ring(self):
        # 8; 4 + 4/2 + 8/4 + 8/8 = 9 in 15/8 steps, 4.8; 4 + 8/2 + 8/4 = 10 in 7/4 steps; 8
        self.rates(50, [[8, 4, 4, 8], RING], [8000000, 4800000, 5714285, 8000000])

    def test_the_most_of_its_machine(self):
        for s in range(4):
            gains = [3, -2, 5, 1]
            gains[s] = 6
            weights = [5, 1, 0, 2, 9, 9, 9, 9, 0, 0, 1, 100, 7, 3, 2, 1]
            for b in (1, 50, 99):
                self.assertEqual(rate(b, [s], [gains, weights]), [0, 6000000])


class SeveralMachines(RateCase):
    def test_one_rate_for_each_machine_in_their_order(self):
        a, b, c = [[0, 100], ONCE], [[3, 6], [0, 1, 1, 0]], [[-7], [1]]
        self.assertEqual(rate(50, [0, 0], a + b), [0, 50000000, 4000000])
        self.assertEqual(rate(50, [0, 0], b + a), [0, 4000000, 50000000])
        self.assertEqual(rate(50, [1, 0, 0], b + c + a), [0, 6000000, -7000000, 50000000])
        self.assertEqual(rate(50, [0, 1, 1], c + b + a), [0, -7000000, 6000000, 100000000])

    def test_a_rate_is_the_same_whatever_the_others_are(self):
        machine = [[1, 8, 0], [0, 1, 3, 0, 1, 0, 0, 0, 1]]
        for other in ([[0], [1]], [[1000], [1]], [[-1000], [1]], [[3, 6], [0, 1, 1, 0]], machine):
            self.assertEqual(rate(50, [0, 0], machine + other)[:2], [0, 2400000])
            self.assertEqual(rate(50, [0, 0], other + machine)[2], 2400000)
            self.assertEqual(rate(50, [0, 0, 0], other + machine + [[9], [1]])[2], 2400000)

    def test_many_beside_others_and_alone(self):
        for seed, counts in enumerate([[2, 3, 4], [4, 3, 2], [3, 1, 3], [4, 4], [1, 2], [2, 2, 2]] * 3):
            numbers = samples.numbers_from(8000 + seed)
            machines, states = samples.machines_of(numbers, counts, 1000), samples.states_of(numbers, counts)
            b = 1 + next(numbers) % 99
            alone = [rate(b, [states[i]], machines[2 * i:2 * i + 2])[1] for i in range(len(counts))]
            self.assertEqual(rate(b, states, machines), [0] + alone)


class Edges(RateCase):
    def test_b_1(self):
        # 0.99 of the gain and 0.01 of what comes for ever
        self.rates(1, [[0, 1], ONCE], [10000, 1000000])
        self.rates(1, [[-1000, 1000], ONCE], [-980000000, 1000000000])
        # over the top: (0 + 0.01) / 1.01
        self.rates(1, [[0, 1, 0], [0, 1, 0, 0, 0, 1, 0, 0, 1]], [9900, 1000000, 0])

    def test_b_99(self):
        self.rates(99, [[0, 1], ONCE], [990000, 1000000])
        self.rates(99, [[-1000, 1000], ONCE], [980000000, 1000000000])
        # over the top: 0.99 / 1.99
        self.rates(99, [[0, 1, 0], [0, 1, 0, 0, 0, 1, 0, 0, 1]], [497487, 1000000, 0])

    def test_the_greatest_and_the_least_gain(self):
        # -1000 + 1000/2 = -500 in 3/2 steps, and again for ever where one can
        self.rates(50, [[-1000, 1000, -1000], [0, 1, 0, 0, 0, 1, 0, 0, 1]], [-333333334, 1000000000, -1000000000])
        self.rates(50, [[1000, -1000], [0, 1, 1, 0]], [1000000000, -333333334])

    def test_weights_of_0_and_100(self):
        # never to 1000, whose weight is 0: x = 2 + 1/2 (x/2 + 8/2), x = 16/3, as 8/3 for ever
        self.rates(50, [[2, 4, 1000], [100, 100, 0, 0, 100, 0, 0, 0, 100]], [2666666, 4000000, 1000000000])
        # x = 1/2 (100/101 x + 2000/101): x = 1000/51, as 500/51 for ever
        self.rates(50, [[0, 1000], [100, 1, 0, 1]], [9803921, 1000000000])

    def test_downwards_below_0(self):
        # -10 + 6/2 + 3/4 = -25/4 in 7/4 steps, -25/7; what comes last, -4, is less
        self.rates(50, [[-10, 6, 3, -4], CLIMB], [-3571429, 6000000, 3000000, -4000000])
        # x = -1 + 1/2 (10/11 x), x = -11/6, as -11/12 for ever
        self.rates(50, [[-1, 0], [10, 1, 0, 1]], [-916667, 0])
        # x = 1/2 (10/11 x + 2/11), x = 1/6, as 1/12 for ever
        self.rates(50, [[0, 1], [10, 1, 0, 1]], [83333, 1000000])

    def test_less_than_a_millionth_from_0(self):
        # a millionth by a chance of 1 in 101
        self.rates(1, [[0, 0, 0, 1], RARE], [0, 100, 10000, 1000000])
        # a loss that is only ahead is not waited for: one ends after the first pull
        self.rates(1, [[0, 0, 0, -1], RARE], [0, 0, 0, -1000000])
        # -1 and then 99 once, by a chance of 1 in 100: -1 + 0.0099 in 1.0001 steps, -0.99000099990..
        self.rates(1, [[-1, 99, -1000], [0, 1, 99, 0, 0, 1, 0, 0, 1]], [-990001, 99000000, -1000000000])

    def test_just_a_whole_number_of_millionths(self):
        # 0.01 of 0.01 of 0.01
        self.rates(1, [[0, 0, 0, 1], CLIMB], [1, 100, 10000, 1000000])
        self.rates(1, [[0, 0, 0, 7], CLIMB], [7, 700, 70000, 7000000])
        # 0.99 of -1 and 0.01 of 100, of 0
        self.rates(1, [[-1, 100], ONCE], [10000, 100000000])
        self.rates(1, [[-1, 0], ONCE], [-990000, 0])
        # 0.99 of -3, 0.0099 of -2, 0.0001 of -1; 0.99 of -2, 0.01 of -1
        self.rates(1, [[-3, -2, -1], [0, 1, 0, 0, 0, 1, 0, 0, 1]], [-2989900, -1990000, -1000000])
        # 0.99 of -1, 0.0099 of -1, 0.000099 of -1 and a millionth of 0
        self.rates(1, [[-1, -1, -1, 0], CLIMB], [-999999, -999900, -990000, 0])

    def test_three_machines_of_24_joint_states(self):
        two = [[0, 100], ONCE]
        three = [[2, 8, 0], [0, 1, 0, 0, 0, 1, 0, 0, 1]]
        four = [[0, 6, 3, 0], CLIMB]
        self.assertEqual(rate(50, [0, 0, 0], two + three + four), [0, 50000000, 4000000, 2142857])
        self.assertEqual(rate(50, [0, 1, 0], four + two + three), [0, 2142857, 100000000, 4000000])
        self.assertEqual(rate(50, [2, 3, 1], three + four + two), [0, 0, 0, 100000000])


class AgainstFractions(unittest.TestCase):
    def check(self, b, states, machines):
        answer = rate(b, states, machines)
        self.assertEqual((len(answer), answer[0]), (len(states) + 1, 0))
        for i, state in enumerate(states):
            machine = machines[2 * i:2 * i + 2]
            self.assertTrue(exact.is_rate(b, answer[i + 1], state, machine), (b, state, machine, answer[i + 1]))

    def test_many_machines(self):
        for seed in range(120):
            numbers = samples.numbers_from(9000 + seed)
            counts = [[4], [2, 2], [3, 2], [1, 4], [2, 3, 4], [4, 3, 2], [3, 4, 2]][seed % 7]
            machines = samples.machines_of(numbers, counts, 1000 if seed % 3 else 6)
            self.check((1, 99, 1 + next(numbers) % 99)[seed % 3], samples.states_of(numbers, counts), machines)

    def test_plain_machines(self):
        for seed in range(60):
            numbers = samples.numbers_from(10000 + seed)
            machines = samples.plain_machines_of(numbers, [4, 3])
            self.check(1 + next(numbers) % 99, samples.states_of(numbers, [4, 3]), machines)


if __name__ == "__main__":
    unittest.main()
