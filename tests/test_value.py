"""Promise 1: value answers 0 and the worth in millionths, downwards."""

import unittest

from leverpulls.machines import value

import bracket
import samples


class OneMachine(unittest.TestCase):
    def test_a_machine_that_stays_gains_for_ever(self):
        # 5 / (1 - 9/10)
        self.assertEqual(value(90, [0], [[5], [1]]), [0, 50000000])

    def test_the_size_of_a_lone_weight_does_not_matter(self):
        self.assertEqual(value(90, [0], [[5], [100]]), [0, 50000000])

    def test_a_gain_of_nothing_is_worth_nothing(self):
        self.assertEqual(value(37, [0], [[0], [3]]), [0, 0])

    def test_one_that_goes_to_and_fro(self):
        # x = 3 + y/2, y = 6 + x/2: x = 8, y = 10
        machine = [[3, 6], [0, 1, 1, 0]]
        self.assertEqual(value(50, [0], machine), [0, 8000000])
        self.assertEqual(value(50, [1], machine), [0, 10000000])

    def test_chances_are_weights_over_the_sum_of_their_row(self):
        # y = 12 for ever = 24; x = 1 + 1/2 (3/4 x + 1/4 24): 5/8 x = 4
        self.assertEqual(value(50, [0], [[1, 12], [3, 1, 0, 7]]), [0, 6400000])

    def test_rows_of_weights_stand_one_behind_another(self):
        # 0 goes to 1, 1 to 2, 2 stays: 1 + 10/2 + 100/4 + 100/8 + .. = 56
        self.assertEqual(value(50, [0], [[1, 10, 100], [0, 1, 0, 0, 0, 1, 0, 0, 1]]), [0, 56000000])
        # the other way round: 2 goes to 1, 1 to 0, 0 stays: 100 + 10/2 + 2/4
        self.assertEqual(value(50, [2], [[1, 10, 100], [1, 0, 0, 1, 0, 0, 0, 1, 0]]), [0, 105500000])

    def test_a_machine_must_be_pulled_even_at_a_loss(self):
        self.assertEqual(value(75, [0], [[-2], [1]]), [0, -8000000])


class SeveralMachines(unittest.TestCase):
    def test_of_machines_that_stay_the_one_of_the_greatest_gain(self):
        self.assertEqual(value(50, [0, 0], [[3], [1], [4], [1]]), [0, 8000000])
        self.assertEqual(value(50, [0, 0], [[4], [1], [3], [1]]), [0, 8000000])
        self.assertEqual(value(50, [0, 0, 0], [[-4], [1], [-9], [1], [-3], [1]]), [0, -6000000])

    def test_first_one_and_then_the_other(self):
        # 10 at once, then 4 for ever: 10 + 8/2; once the first is spent, 4 for ever alone
        machines = [[10, 0], [0, 1, 0, 1], [4], [1]]
        self.assertEqual(value(50, [0, 0], machines), [0, 14000000])
        self.assertEqual(value(50, [1, 0], machines), [0, 8000000])

    def test_a_gain_now_may_be_left_for_more_later(self):
        # 0 and then 100 for ever: 9/10 of 1000, against 10 for ever
        self.assertEqual(value(90, [0, 0], [[0, 100], [0, 1, 0, 1], [10], [1]]), [0, 900000000])
        # with b 5 what comes later counts too little: 5/100 of 2000/19, against 10 for ever, 200/19
        self.assertEqual(value(5, [0, 0], [[0, 100], [0, 1, 0, 1], [10], [1]]), [0, 10526315])

    def test_what_has_been_seen_decides_the_next_pull(self):
        # try the first: 1/4 of the time it is worth 16, else one goes back to the other, worth 4:
        # 1 + 1/2 (16/4 + 4*3/4) = 4.5; without a look 4
        machines = [[1, 8, 0], [0, 1, 3, 0, 1, 0, 0, 0, 1], [2], [1]]
        self.assertEqual(value(50, [0, 0], machines), [0, 4500000])

    def test_the_machine_that_is_not_pulled_stays_as_it_is(self):
        # both give 16 once and then nothing: 16 + 16/2
        once = [[16, 0], [0, 1, 0, 1]]
        self.assertEqual(value(50, [0, 0], once + once), [0, 24000000])
        # and three of them: 16 + 8 + 4
        self.assertEqual(value(50, [0, 0, 0], once + once + once), [0, 28000000])

    def test_three_machines_spent_from_the_greatest_down(self):
        # 40 + 20/2 + 8/4 and nothing more, wherever the machines stand in the row
        a, b, c = [[8, 0], [0, 1, 0, 1]], [[40, 0], [0, 1, 0, 1]], [[20, 0], [0, 1, 0, 1]]
        for machines in (a + b + c, b + c + a, c + a + b, c + b + a):
            self.assertEqual(value(50, [0, 0, 0], machines), [0, 52000000])

    def test_a_loss_is_put_off_for_ever_where_it_can_be(self):
        # -1 for ever is -2; -3 and then nothing is -3; -1 and then that is -2.5
        machines = [[-3, 0], [0, 1, 0, 1], [-1], [1]]
        self.assertEqual(value(50, [0, 0], machines), [0, -2000000])
        # with b 90 the one-time loss is less than -1 for ever, -10
        self.assertEqual(value(90, [0, 0], machines), [0, -3000000])

    def test_each_machine_has_its_own_state(self):
        # states of unlike counts: 7 for ever from state 2 of the second, 1 from state 1 of the first
        first = [[0, 1], [1, 0, 0, 1]]
        second = [[0, 5, 7], [1, 0, 0, 0, 1, 0, 0, 0, 1]]
        self.assertEqual(value(50, [0, 0], first + second), [0, 0])
        self.assertEqual(value(50, [1, 0], first + second), [0, 2000000])
        self.assertEqual(value(50, [0, 1], first + second), [0, 10000000])
        self.assertEqual(value(50, [1, 2], first + second), [0, 14000000])
        self.assertEqual(value(50, [2, 1], second + first), [0, 14000000])


class Edges(unittest.TestCase):
    def test_b_1(self):
        # 100/99
        self.assertEqual(value(1, [0], [[1], [1]]), [0, 1010101])

    def test_b_99(self):
        self.assertEqual(value(99, [0], [[1], [1]]), [0, 100000000])

    def test_the_greatest_and_the_least_gain(self):
        self.assertEqual(value(99, [0], [[1000], [1]]), [0, 100000000000])
        self.assertEqual(value(99, [0], [[-1000], [1]]), [0, -100000000000])
        self.assertEqual(value(1, [0], [[1000], [1]]), [0, 1010101010])
        self.assertEqual(value(1, [0], [[-1000], [1]]), [0, -1010101011])
        # 1000 now, -1000 next: 1000 / (1 + 1/2)
        self.assertEqual(value(50, [0], [[1000, -1000], [0, 1, 1, 0]]), [0, 666666666])

    def test_four_gains(self):
        # 8 + 4/2 + 4/4 + 8/8, and after four steps all again in sixteenths: 12 * 16/15
        ring = [[8, 4, 4, 8], [0, 1, 0, 0, 0, 0, 1, 0, 0, 0, 0, 1, 1, 0, 0, 0]]
        self.assertEqual(value(50, [0], ring), [0, 12800000])
        # 8 + 8/2 + 4/4 + 4/8 = 13.5; 13.5 * 16/15
        self.assertEqual(value(50, [3], ring), [0, 14400000])

    def test_weights_of_0_and_100(self):
        # half a chance each, and a chance that is 0: x = 2 + 1/2 (x/2 + 8/2): 3/4 x = 4
        machine = [[2, 4, 1000], [100, 100, 0, 0, 100, 0, 0, 0, 100]]
        self.assertEqual(value(50, [0], machine), [0, 5333333])
        self.assertEqual(value(50, [1], machine), [0, 8000000])

    def test_a_weight_of_1_beside_100(self):
        # x = 1/2 (100/101 x + 1/101 * 2000): (1 - 50/101) x = 1000/101: x = 1000/51
        self.assertEqual(value(50, [0], [[0, 1000], [100, 1, 0, 1]]), [0, 19607843])

    def test_downwards_below_0(self):
        self.assertEqual(value(1, [0], [[-1], [1]]), [0, -1010102])
        # -1 / (1 - 7/10) = -3.33..
        self.assertEqual(value(70, [0], [[-1], [1]]), [0, -3333334])
        self.assertEqual(value(70, [0], [[1], [1]]), [0, 3333333])

    def test_a_hair_below_and_above_0(self):
        # a ring that gains in its last state alone: a millionth, and a hundred-millionth of that
        ring = [0, 1, 0, 0, 0, 0, 1, 0, 0, 0, 0, 1, 1, 0, 0, 0]
        self.assertEqual(value(1, [0], [[0, 0, 0, 1], ring]), [0, 1])
        self.assertEqual(value(1, [0], [[0, 0, 0, -1], ring]), [0, -2])
        # less than a millionth, either way: a millionth with a chance of 1 in 101
        rare = [100, 1, 0, 0, 0, 0, 1, 0, 0, 0, 0, 1, 0, 0, 0, 1]
        self.assertEqual(value(1, [0], [[0, 0, 0, 1], rare]), [0, 0])
        self.assertEqual(value(1, [0], [[0, 0, 0, -1], rare]), [0, -1])

    def test_just_a_whole_number_of_millionths(self):
        self.assertEqual(value(50, [0], [[-3], [1]]), [0, -6000000])
        # one hundredth of a chance, two steps later, at b 1: a millionth and nothing else
        chain = [0, 1, 0, 99, 0, 0, 1, 0, 0, 0, 0, 1, 0, 0, 0, 1]
        self.assertEqual(value(1, [0], [[0, 0, 1, 0], chain]), [0, 1])
        self.assertEqual(value(1, [0], [[0, 0, -1, 0], chain]), [0, -1])
        self.assertEqual(value(1, [0], [[0, 0, -1000, 0], chain]), [0, -1000])

    def test_fractions_that_add_up_are_not_cut_on_the_way(self):
        # thirds all the way: x = 1/2 (a third each of 2, 4 and 6) = 2, and of the same below 0
        third = [0, 1, 1, 1, 0, 1, 0, 0, 0, 0, 1, 0, 0, 0, 0, 1]
        self.assertEqual(value(50, [0], [[0, 1, 2, 3], third]), [0, 2000000])
        self.assertEqual(value(50, [0], [[0, -1, -2, -3], third]), [0, -2000000])

    def test_a_pull_that_is_better_by_one_millionth_is_taken(self):
        # beside a machine that gains nothing, the chain that is worth just a millionth; below 0 it is left
        chain = [0, 1, 0, 99, 0, 0, 1, 0, 0, 0, 0, 1, 0, 0, 0, 1]
        nothing = [[0], [1]]
        for gain, worth in ((1, 1), (-1, 0)):
            machine = [[0, 0, gain, 0], chain]
            self.assertEqual(value(1, [0, 0], nothing + machine), [0, worth])
            self.assertEqual(value(1, [0, 0], machine + nothing), [0, worth])

    def test_three_machines_of_24_joint_states(self):
        # each climbs a step a pull and is spent at its top; best are 9, 9, 9, then 6, 6, 3 at halves
        two = [[9, 0], [0, 1, 0, 1]]
        three = [[9, 6, 0], [0, 1, 0, 0, 0, 1, 0, 0, 1]]
        four = [[9, 6, 3, 0], [0, 1, 0, 0, 0, 0, 1, 0, 0, 0, 0, 1, 0, 0, 0, 1]]
        # 9 + 9/2 + 9/4 + 6/8 + 6/16 + 3/32 = 16.96875
        self.assertEqual(value(50, [0, 0, 0], two + three + four), [0, 16968750])
        self.assertEqual(value(50, [0, 0, 0], four + two + three), [0, 16968750])
        # later on: 6 + 3/2 with the rest spent
        self.assertEqual(value(50, [1, 2, 1], two + three + four), [0, 7500000])
        self.assertEqual(value(50, [1, 2, 3], two + three + four), [0, 0])


class AgainstBounds(unittest.TestCase):
    def check(self, b, states, machines):
        low, high = bracket.worth_bounds(b, states, machines)
        self.assertLessEqual(high - low, 1)
        answer = value(b, states, machines)
        self.assertEqual(len(answer), 2)
        self.assertEqual(answer[0], 0)
        self.assertTrue(low <= answer[1] <= high, (b, states, machines, answer, low, high))

    def test_many_small_ones(self):
        for seed in range(120):
            numbers = samples.numbers_from(seed)
            counts = [[1], [4], [2, 2], [3, 2], [1, 4], [2, 2, 2], [4, 1, 2], [2, 3, 1]][seed % 8]
            machines = samples.machines_of(numbers, counts, 1000 if seed % 3 else 6)
            states = samples.states_of(numbers, counts)
            self.check(1 + next(numbers) % 90, states, machines)

    def test_24_joint_states(self):
        for seed, counts in enumerate([[2, 3, 4], [4, 3, 2], [3, 4, 2], [4, 2, 3], [2, 4, 3], [3, 2, 4]]):
            numbers = samples.numbers_from(1000 + seed)
            machines = samples.machines_of(numbers, counts, 1000)
            for b in (1, 60, 90):
                self.check(b, samples.states_of(numbers, counts), machines)

    def test_b_99(self):
        for seed in range(3):
            numbers = samples.numbers_from(2000 + seed)
            self.check(99, [seed, 1], samples.machines_of(numbers, [3, 2], 1000))


if __name__ == "__main__":
    unittest.main()
