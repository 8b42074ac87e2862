"""Promise 2: steps answers 0 and what k pulls and no more are worth at most, in millionths, downwards."""

import unittest

from leverpulls.machines import steps, value

import exact
import samples

ONCE = [0, 1, 0, 1]
RING = [0, 1, 0, 0, 0, 0, 1, 0, 0, 0, 0, 1, 1, 0, 0, 0]


class NoPull(unittest.TestCase):
    def test_no_pull_is_worth_nothing(self):
        self.assertEqual(steps(50, 0, [0], [[5], [1]]), [0, 0])
        self.assertEqual(steps(1, 0, [1], [[-7, -1000], [1, 1, 1, 1]]), [0, 0])
        self.assertEqual(steps(99, 0, [0, 1, 0], [[1000], [1], [3, 1000], ONCE, [-5], [1]]), [0, 0])


class OnePull(unittest.TestCase):
    def test_it_gains_what_the_state_says_and_counts_in_full(self):
        for b in (1, 50, 99):
            self.assertEqual(steps(b, 1, [0], [[5, 9], ONCE]), [0, 5000000])
            self.assertEqual(steps(b, 1, [1], [[5, 9], ONCE]), [0, 9000000])

    def test_the_greatest_gain_at_hand(self):
        a, b, c = [[3, 900], ONCE], [[-8, 4], ONCE], [[7], [1]]
        self.assertEqual(steps(90, 1, [0, 0], a + b), [0, 3000000])
        self.assertEqual(steps(90, 1, [0, 1], a + b), [0, 4000000])
        self.assertEqual(steps(90, 1, [0, 1, 0], a + b + c), [0, 7000000])
        self.assertEqual(steps(90, 1, [0, 0, 1], c + b + a), [0, 900000000])

    def test_below_0(self):
        self.assertEqual(steps(90, 1, [0, 0], [[-3], [1], [-2], [1]]), [0, -2000000])


class OneMachine(unittest.TestCase):
    def test_one_that_stays(self):
        # 5, 5 + 2.5, 5 + 2.5 + 1.25
        for k, worth in ((1, 5000000), (2, 7500000), (3, 8750000)):
            self.assertEqual(steps(50, k, [0], [[5], [1]]), [0, worth])

    def test_one_that_goes_to_and_fro(self):
        # 3 + 6/2 + 3/4 + 6/8
        machine = [[3, 6], [0, 1, 1, 0]]
        for k, worth in ((1, 3000000), (2, 6000000), (3, 6750000), (4, 7500000)):
            self.assertEqual(steps(50, k, [0], machine), [0, worth])
        # 6 + 3/2 + 6/4
        for k, worth in ((1, 6000000), (2, 7500000), (3, 9000000)):
            self.assertEqual(steps(50, k, [1], machine), [0, worth])

    def test_chances_are_weights_over_the_sum_of_their_row(self):
        # 1 + 1/2 (3/4 1 + 1/4 12) = 2.875; 1 + 1/2 (3/4 2.875 + 1/4 18) = 4.328125
        machine = [[1, 12], [3, 1, 0, 7]]
        self.assertEqual(steps(50, 2, [0], machine), [0, 2875000])
        self.assertEqual(steps(50, 3, [0], machine), [0, 4328125])
        self.assertEqual(steps(50, 2, [1], machine), [0, 18000000])

    def test_four_gains_in_a_ring(self):
        # 8 + 4/2 + 2/4 + 1/8 + 8/16
        for k, worth in ((1, 8000000), (2, 10000000), (3, 10500000), (4, 10625000), (5, 11125000)):
            self.assertEqual(steps(50, k, [0], [[8, 4, 2, 1], RING]), [0, worth])


class SeveralMachines(unittest.TestCase):
    def test_first_one_and_then_the_other(self):
        # 10, then 4/2, then 4/4; the machine of 10 gains nothing once it is spent
        machines = [[10, 0], ONCE, [4], [1]]
        for k, worth in ((1, 10000000), (2, 12000000), (3, 13000000)):
            self.assertEqual(steps(50, k, [0, 0], machines), [0, worth])
            self.assertEqual(steps(50, k, [0, 0], machines[2:] + machines[:2]), [0, worth])

    def test_a_way_that_pays_only_if_enough_pulls_are_left(self):
        # 100 after two pulls of nothing, beside 10 at every pull, b 90
        machines = [[0, 0, 100], [0, 1, 0, 0, 0, 1, 0, 0, 1], [10], [1]]
        self.assertEqual(steps(90, 1, [0, 0], machines), [0, 10000000])
        # 10 + 9
        self.assertEqual(steps(90, 2, [0, 0], machines), [0, 19000000])
        # 100 * 0.81, against 10 + 9 + 8.1
        self.assertEqual(steps(90, 3, [0, 0], machines), [0, 81000000])
        # 81 + 72.9
        self.assertEqual(steps(90, 4, [0, 0], machines), [0, 153900000])

    def test_what_has_been_seen_decides_the_next_pull(self):
        # 1 + 1/2 (8/4 + 2*3/4) = 2.75, against 2 + 1 = 3; with three pulls
        # 1 + 1/2 (12/4 + 3*3/4) = 3.625, against 2 + 1 + 1/2 = 3.5
        machines = [[1, 8, 0], [0, 1, 3, 0, 1, 0, 0, 0, 1], [2], [1]]
        self.assertEqual(steps(50, 2, [0, 0], machines), [0, 3000000])
        self.assertEqual(steps(50, 3, [0, 0], machines), [0, 3625000])

    def test_the_machine_that_is_not_pulled_stays_as_it_is(self):
        # 40 + 20/2 + 8/4, and nothing more
        a, b, c = [[8, 0], ONCE], [[40, 0], ONCE], [[20, 0], ONCE]
        for machines in (a + b + c, b + c + a, c + a + b, c + b + a):
            for k, worth in ((1, 40000000), (2, 50000000), (3, 52000000), (4, 52000000), (20, 52000000)):
                self.assertEqual(steps(50, k, [0, 0, 0], machines), [0, worth])

    def test_k_pulls_are_made_even_at_a_loss(self):
        # -1 at each pull, or -3 once and then nothing, b 90: -1, -1.9, -2.71, then -3 against -3.439
        machines = [[-3, 0], ONCE, [-1], [1]]
        for k, worth in ((1, -1000000), (2, -1900000), (3, -2710000), (4, -3000000), (20, -3000000)):
            self.assertEqual(steps(90, k, [0, 0], machines), [0, worth])
        # all below 0 for ever: -2, -2 - 1, -2 - 1 - 1/2
        for k, worth in ((1, -2000000), (2, -3000000), (3, -3500000)):
            self.assertEqual(steps(50, k, [0, 0, 0], [[-4], [1], [-2], [1], [-9], [1]]), [0, worth])

    def test_a_loss_is_put_off_to_where_it_counts_least(self):
        # both lose once and then gain nothing, and one that stays is at -10: -1 and then nothing
        machines = [[-1, 0], ONCE, [-2, 0], ONCE, [-10], [1]]
        self.assertEqual(steps(50, 3, [0, 0, 0], machines), [0, -1000000])
        # the first now loses 1 at every pull, then -1 and -1/2, against -2 and nothing
        machines = [[-1], [1], [-2, 0], ONCE, [-10], [1]]
        self.assertEqual(steps(50, 2, [0, 0, 0], machines), [0, -1500000])


class Edges(unittest.TestCase):
    def test_k_20(self):
        # 2 less 1 in 2 to the 19
        self.assertEqual(steps(50, 20, [0], [[1], [1]]), [0, 1999998])
        self.assertEqual(steps(50, 20, [0], [[-1], [1]]), [0, -1999999])
        # a ring of four, b 1: 1 + 1/100 ** 4 + ..
        self.assertEqual(steps(1, 20, [0], [[1, 0, 0, 0], RING]), [0, 1000000])

    def test_k_19_and_20_differ(self):
        # the twentieth pull counts (1/2) ** 19 of 1000, 1907.3 millionths
        self.assertEqual(steps(50, 19, [0], [[1000], [1]]), [0, 1999996185])
        self.assertEqual(steps(50, 20, [0], [[1000], [1]]), [0, 1999998092])

    def test_b_1(self):
        # 1.01, 1.0101, 1.010101 and then nothing that a millionth shows
        for k, worth in ((2, 1010000), (3, 1010100), (4, 1010101), (5, 1010101), (20, 1010101)):
            self.assertEqual(steps(1, k, [0], [[1], [1]]), [0, worth])

    def test_b_99(self):
        # 1 + 0.99 + 0.9801
        self.assertEqual(steps(99, 3, [0], [[1], [1]]), [0, 2970100])
        # 100 (1 - 0.99 ** 20) = 18.2093062..
        self.assertEqual(steps(99, 20, [0], [[1], [1]]), [0, (100 ** 20 - 99 ** 20) * 10 ** 8 // 100 ** 20])
        self.assertEqual(steps(99, 20, [0], [[1], [1]]), [0, 18209306])

    def test_the_greatest_and_the_least_gain(self):
        self.assertEqual(steps(99, 2, [0], [[1000], [1]]), [0, 1990000000])
        self.assertEqual(steps(99, 2, [0], [[-1000], [1]]), [0, -1990000000])
        self.assertEqual(steps(50, 2, [0], [[1000, -1000], [0, 1, 1, 0]]), [0, 500000000])

    def test_weights_of_0_and_100(self):
        # 2 + 1/2 (2/2 + 4/2)
        machine = [[2, 4, 1000], [100, 100, 0, 0, 100, 0, 0, 0, 100]]
        self.assertEqual(steps(50, 2, [0], machine), [0, 3500000])
        self.assertEqual(steps(50, 3, [1], machine), [0, 7000000])
        # 1/2 of 1000/101
        self.assertEqual(steps(50, 2, [0], [[0, 1000], [100, 1, 0, 1]]), [0, 4950495])

    def test_downwards_below_0(self):
        # -1.01010101 is cut to -1010102; -1.010101 is just a whole number of millionths
        self.assertEqual(steps(1, 5, [0], [[-1], [1]]), [0, -1010102])
        self.assertEqual(steps(1, 4, [0], [[-1], [1]]), [0, -1010101])
        # half of a third
        self.assertEqual(steps(50, 2, [0], [[0, -1], [2, 1, 0, 1]]), [0, -166667])
        self.assertEqual(steps(50, 2, [0], [[0, 1], [2, 1, 0, 1]]), [0, 166666])

    def test_less_than_a_millionth(self):
        # (1/100) ** 4 on the fifth pull
        for gain, worth in ((1, 0), (-1, -1)):
            machine = [[gain, 0, 0, 0], [0, 1, 0, 0, 0, 0, 1, 0, 0, 0, 0, 1, 1, 0, 0, 0]]
            self.assertEqual(steps(1, 3, [1], machine), [0, 0])
            self.assertEqual(steps(1, 4, [1], machine), [0, gain])
            rare = [[0, 0, 0, gain], [100, 1, 0, 0, 0, 0, 1, 0, 0, 0, 0, 1, 0, 0, 0, 1]]
            self.assertEqual(steps(1, 4, [0], rare), [0, worth])

    def test_fractions_that_add_up_are_not_cut_on_the_way(self):
        # a third each of 1, 2 and 3, half as much a step later
        third = [0, 1, 1, 1, 0, 1, 0, 0, 0, 0, 1, 0, 0, 0, 0, 1]
        self.assertEqual(steps(50, 2, [0], [[0, 1, 2, 3], third]), [0, 1000000])
        self.assertEqual(steps(50, 2, [0], [[0, -1, -2, -3], third]), [0, -1000000])
        self.assertEqual(steps(50, 3, [0], [[0, 1, 2, 3], third]), [0, 1500000])

    def test_three_machines_of_24_joint_states(self):
        two = [[9, 0], ONCE]
        three = [[9, 6, 0], [0, 1, 0, 0, 0, 1, 0, 0, 1]]
        four = [[9, 6, 3, 0], [0, 1, 0, 0, 0, 0, 1, 0, 0, 0, 0, 1, 0, 0, 0, 1]]
        # 9 + 9/2 + 9/4 + 6/8 + 6/16 + 3/32
        for k, worth in ((1, 9000000), (2, 13500000), (3, 15750000), (4, 16500000), (5, 16875000), (6, 16968750)):
            self.assertEqual(steps(50, k, [0, 0, 0], two + three + four), [0, worth])
            self.assertEqual(steps(50, k, [0, 0, 0], four + two + three), [0, worth])
        self.assertEqual(steps(50, 20, [0, 0, 0], three + four + two), [0, 16968750])


class AgainstFractions(unittest.TestCase):
    def check(self, b, k, states, machines):
        worth = exact.down(exact.steps_worth(b, k, states, machines))
        self.assertEqual(steps(b, k, states, machines), [0, worth], (b, k, states, machines))

    def test_many_small_ones(self):
        for seed in range(120):
            numbers = samples.numbers_from(3000 + seed)
            counts = [[1], [4], [2, 2], [3, 2], [1, 4], [2, 2, 2], [4, 1, 2], [2, 3, 1]][seed % 8]
            machines = samples.machines_of(numbers, counts, 1000 if seed % 3 else 6)
            self.check(1 + next(numbers) % 99, seed % 7, samples.states_of(numbers, counts), machines)

    def test_20_pulls_of_24_joint_states(self):
        for seed, counts in enumerate([[2, 3, 4], [4, 3, 2], [3, 4, 2], [4, 2, 3]]):
            numbers = samples.numbers_from(4000 + seed)
            machines = samples.machines_of(numbers, counts, 1000)
            for b in (1, 70, 99):
                self.check(b, 20, samples.states_of(numbers, counts), machines)

    def test_20_pulls_come_near_the_worth_where_b_is_small(self):
        # what comes after them counts (1/10) ** 20 of 1112 at most, far less than a millionth
        for seed in range(20):
            numbers = samples.numbers_from(5000 + seed)
            machines = samples.machines_of(numbers, [3, 2], 1000)
            states = samples.states_of(numbers, [3, 2])
            near, worth = steps(10, 20, states, machines)[1], value(10, states, machines)[1]
            self.assertLessEqual(abs(near - worth), 1)


if __name__ == "__main__":
    unittest.main()
