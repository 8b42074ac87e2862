"""Promise 3: best answers the sum of 2 to the i over all machines i that are best to pull."""

import unittest

from leverpulls.machines import best

import exact
import samples

ONCE = [0, 1, 0, 1]
NOTHING = [[0], [1]]
TO_AND_FRO = [[3, 6], [0, 1, 1, 0]]
# goes on with a chance of 1 in 101 to where, two steps later, it gains
RARE = [100, 1, 0, 0, 0, 0, 1, 0, 0, 0, 0, 1, 0, 0, 0, 1]


def stay(gain):
    return [[gain], [1]]


class OneMachine(unittest.TestCase):
    def test_the_only_one_is_best(self):
        self.assertEqual(best(90, [0], stay(5)), [1])
        self.assertEqual(best(90, [0], stay(0)), [1])
        self.assertEqual(best(90, [0], stay(-5)), [1])
        self.assertEqual(best(30, [1], TO_AND_FRO), [1])


class OneAloneIsBest(unittest.TestCase):
    def test_of_two(self):
        self.assertEqual(best(50, [0, 0], stay(4) + stay(3)), [1])
        self.assertEqual(best(50, [0, 0], stay(3) + stay(4)), [2])

    def test_of_three(self):
        self.assertEqual(best(50, [0, 0, 0], stay(4) + stay(3) + stay(2)), [1])
        self.assertEqual(best(50, [0, 0, 0], stay(3) + stay(4) + stay(2)), [2])
        self.assertEqual(best(50, [0, 0, 0], stay(3) + stay(2) + stay(4)), [4])
        self.assertEqual(best(50, [0, 0, 0], stay(-3) + stay(-2) + stay(-4)), [2])

    def test_what_is_spent_is_not_pulled_again(self):
        # 10 once, then nothing, beside 4 for ever
        machines = [[10, 0], ONCE] + stay(4)
        self.assertEqual(best(50, [0, 0], machines), [1])
        self.assertEqual(best(50, [1, 0], machines), [2])

    def test_a_gain_now_may_be_left_for_more_later(self):
        # 0 and then 100 for ever: 900 against 10 + 0.9 * 900 = 820
        machines = [[0, 100], ONCE] + stay(10)
        self.assertEqual(best(90, [0, 0], machines), [1])
        # b 5: 5/100 of 2000/19, 5.26, against 10 for ever, 10.52
        self.assertEqual(best(5, [0, 0], machines), [2])

    def test_a_look_that_may_show_something_better(self):
        # 1 + 1/2 (16/4 + 4*3/4) = 4.5, against 2 + 4.5/2 = 4.25
        machines = [[1, 8, 0], [0, 1, 3, 0, 1, 0, 0, 0, 1]] + stay(2)
        self.assertEqual(best(50, [0, 0], machines), [1])
        self.assertEqual(best(50, [1, 0], machines), [1])
        self.assertEqual(best(50, [2, 0], machines), [2])

    def test_a_small_loss_for_ever_or_a_great_one_once(self):
        # -3 and then nothing, or -1 for ever: -2 at b 50, -10 at b 90
        machines = [[-3, 0], ONCE] + stay(-1)
        self.assertEqual(best(50, [0, 0], machines), [2])
        self.assertEqual(best(90, [0, 0], machines), [1])

    def test_the_greatest_of_what_is_spent_at_once_comes_first(self):
        a, b, c = [[8, 0], ONCE], [[40, 0], ONCE], [[20, 0], ONCE]
        self.assertEqual(best(50, [0, 0, 0], a + b + c), [2])
        self.assertEqual(best(50, [0, 1, 0], a + b + c), [4])
        self.assertEqual(best(50, [0, 1, 1], a + b + c), [1])
        self.assertEqual(best(50, [0, 0, 0], b + c + a), [1])
        self.assertEqual(best(50, [0, 0, 0], c + a + b), [4])


class SeveralAreBest(unittest.TestCase):
    def test_equal_machines(self):
        self.assertEqual(best(50, [0, 0], stay(4) + stay(4)), [3])
        self.assertEqual(best(50, [0, 0, 0], stay(4) * 3), [7])
        self.assertEqual(best(70, [1, 1, 1], TO_AND_FRO * 3), [7])
        self.assertEqual(best(70, [0, 0, 0], TO_AND_FRO * 3), [7])

    def test_equal_machines_in_unlike_states(self):
        self.assertEqual(best(70, [0, 1, 1], TO_AND_FRO * 3), [6])
        self.assertEqual(best(70, [1, 0, 1], TO_AND_FRO * 3), [5])
        self.assertEqual(best(70, [1, 1, 0], TO_AND_FRO * 3), [3])
        self.assertEqual(best(70, [0, 1, 0], TO_AND_FRO * 3), [2])

    def test_two_and_a_third_that_is_not(self):
        self.assertEqual(best(50, [0, 0, 0], stay(4) + stay(4) + stay(3)), [3])
        self.assertEqual(best(50, [0, 0, 0], stay(4) + stay(3) + stay(4)), [5])
        self.assertEqual(best(50, [0, 0, 0], stay(3) + stay(4) + stay(4)), [6])

    def test_machines_that_differ_by_an_exact_tie(self):
        # 3, 6, 3, 6, ..: 8 at b 50, as 4 for ever; 4 first and then that is 8 as well
        self.assertEqual(best(50, [0, 0], TO_AND_FRO + stay(4)), [3])
        self.assertEqual(best(50, [0, 0, 0], stay(3) + TO_AND_FRO + stay(4)), [6])
        # once at 6 it alone is best; beside 5 for ever, 10, it is not: 3 + 1/2 (6 + 10/2) = 8.5
        self.assertEqual(best(50, [1, 0], TO_AND_FRO + stay(4)), [1])
        self.assertEqual(best(50, [0, 0], TO_AND_FRO + stay(5)), [2])

    def test_a_tie_that_another_b_breaks(self):
        # 3 and then 6 is more than 4 and then 4 if b is above 50, less if it is below
        self.assertEqual(best(51, [0, 0], TO_AND_FRO + stay(4)), [1])
        self.assertEqual(best(49, [0, 0], TO_AND_FRO + stay(4)), [2])

    def test_the_same_chances_by_unlike_weights(self):
        # a third each way, written as 1 to 2 and as 33 to 66
        a, b = [[0, 9], [2, 1, 0, 1]], [[0, 9], [66, 33, 0, 77]]
        self.assertEqual(best(70, [0, 0], a + b), [3])
        self.assertEqual(best(70, [0, 0, 0], a + stay(0) + b), [5])

    def test_thirds_that_tie_with_a_whole_number(self):
        # 0, and then 3, 6 or 9 for ever by a third each, b 50: beside 3 for ever it is worth
        # 1/2 (6 + 12 + 18)/3 = 6, as 3 for ever is
        third = [[0, 3, 6, 9], [0, 1, 1, 1, 0, 1, 0, 0, 0, 0, 1, 0, 0, 0, 0, 1]]
        self.assertEqual(best(50, [0, 0], third + stay(3)), [3])
        # beside 4 for ever, worth 8, the 3 is left: 1/2 (8 + 12 + 18)/3 = 19/3
        self.assertEqual(best(50, [0, 0], third + stay(4)), [2])
        # beside 2 for ever, worth 4, it is still 6, and 2 first and then that only 5
        self.assertEqual(best(50, [0, 0], third + stay(2)), [1])
        self.assertEqual(best(50, [0, 0, 0], stay(3) + stay(2) + third), [5])


class Edges(unittest.TestCase):
    def test_b_1(self):
        # 1 and then 1000 for ever is as 0.99 of 1 and 0.01 of 1000 for ever, 10.99
        machine = [[1, 1000], ONCE]
        self.assertEqual(best(1, [0, 0], machine + stay(10)), [1])
        self.assertEqual(best(1, [0, 0], machine + stay(11)), [2])
        # 0.99 of 0 and 0.01 of 1000 is just 10
        self.assertEqual(best(1, [0, 0], [[0, 1000], ONCE] + stay(10)), [3])

    def test_b_99(self):
        # -1000 and then 1000 for ever is as 0.01 of -1000 and 0.99 of 1000 for ever, just 980
        machine = [[-1000, 1000], ONCE]
        self.assertEqual(best(99, [0, 0], machine + stay(980)), [3])
        self.assertEqual(best(99, [0, 0], machine + stay(979)), [1])
        self.assertEqual(best(99, [0, 0], machine + stay(981)), [2])

    def test_the_greatest_and_the_least_gain(self):
        self.assertEqual(best(99, [0, 0, 0], stay(-1000) + stay(1000) + stay(999)), [2])
        self.assertEqual(best(99, [0, 0, 0], stay(-1000) + stay(-999) + stay(-1000)), [2])
        self.assertEqual(best(1, [0, 0, 0], stay(1000) + stay(-1000) + stay(1000)), [5])
        self.assertEqual(best(1, [0, 0], stay(-1000) + stay(-1000)), [3])

    def test_one_and_four_gains(self):
        # 8, 4, 4, 8 and round again; from the first 4 on, one round is 4 + 4/2 + 8/4 + 8/8 = 9, which
        # a gain of 4.8 in each of its four steps would be too
        ring = [[8, 4, 4, 8], [0, 1, 0, 0, 0, 0, 1, 0, 0, 0, 0, 1, 1, 0, 0, 0]]
        self.assertEqual(best(50, [1, 0], ring + stay(4)), [1])
        self.assertEqual(best(50, [1, 0], ring + stay(5)), [2])
        self.assertEqual(best(50, [0, 0], ring + stay(8)), [3])
        self.assertEqual(best(50, [3, 0], ring + stay(8)), [3])

    def test_weights_of_0_and_100(self):
        # never to the gain of 1000, whose weight is 0; for ever: x = 2 + 1/2 (x/2 + 8/2), x = 16/3, as 8/3 for ever
        machine = [[2, 4, 1000], [100, 100, 0, 0, 100, 0, 0, 0, 100]]
        self.assertEqual(best(50, [0, 0], machine + stay(3)), [2])
        self.assertEqual(best(50, [0, 0], machine + stay(2)), [1])
        self.assertEqual(best(50, [1, 0], machine + stay(4)), [3])
        self.assertEqual(best(50, [2, 0], machine + stay(4)), [1])

    def test_less_than_a_millionth_apart(self):
        # a millionth with a chance of 1 in 101, against nothing
        self.assertEqual(best(1, [0, 0], [[0, 0, 0, 1], RARE] + NOTHING), [1])
        self.assertEqual(best(1, [0, 0], NOTHING + [[0, 0, 0, 1], RARE]), [2])
        # less of it, against more of it
        self.assertEqual(best(1, [0, 0], [[0, 0, 0, 1], RARE] + [[0, 0, 0, 2], RARE]), [2])
        self.assertEqual(best(1, [0, 0], [[0, 0, 0, 2], RARE] + [[0, 0, 0, 1], RARE]), [1])
        self.assertEqual(best(1, [0, 0], [[0, 0, 0, 2], RARE] + [[0, 0, 0, 2], RARE]), [3])

    def test_less_than_a_millionth_apart_above_and_below_0(self):
        # the same, laid upon a gain that all have
        for gain in (-7, 500):
            more = [[gain, gain, gain, gain + 1], RARE]
            self.assertEqual(best(1, [0, 0, 0], stay(gain) + more + stay(gain)), [2])
            self.assertEqual(best(1, [0, 0, 0], more + stay(gain) + more), [5])

    def test_a_loss_that_is_only_ahead_can_be_left_in_time(self):
        # pulled once it gains the same as the other, which may be pulled ever after
        self.assertEqual(best(1, [0, 0], [[0, 0, 0, -1], RARE] + NOTHING), [3])
        self.assertEqual(best(99, [0, 0], [[4, -1000], ONCE] + stay(4)), [3])

    def test_three_machines_of_24_joint_states(self):
        two = [[9, 0], ONCE]
        three = [[9, 6, 0], [0, 1, 0, 0, 0, 1, 0, 0, 1]]
        four = [[9, 6, 3, 0], [0, 1, 0, 0, 0, 0, 1, 0, 0, 0, 0, 1, 0, 0, 0, 1]]
        machines = two + three + four
        for states, found in (([0, 0, 0], 7), ([1, 0, 0], 6), ([0, 1, 0], 5), ([0, 0, 1], 3), ([1, 1, 1], 6),
                              ([1, 1, 2], 2), ([1, 2, 2], 4), ([1, 2, 3], 7), ([0, 2, 3], 1)):
            self.assertEqual(best(50, states, machines), [found], states)
        self.assertEqual(best(50, [1, 1, 2], four + two + three), [1])
        self.assertEqual(best(50, [2, 1, 1], four + two + three), [4])


class AgainstFractions(unittest.TestCase):
    def check(self, b, states, machines):
        found = exact.best_machines(b, states, machines)
        self.assertEqual(best(b, states, machines), [sum(2 ** i for i in found)], (b, states, machines))
        return len(found)

    def test_many_machines(self):
        for seed in range(60):
            numbers = samples.numbers_from(6000 + seed)
            counts = [[4], [2, 2], [3, 2], [1, 4], [2, 2, 1], [1, 2, 1]][seed % 6]
            machines = samples.machines_of(numbers, counts, 1000 if seed % 3 else 6)
            self.check(1 + next(numbers) % 99, samples.states_of(numbers, counts), machines)

    def test_machines_that_are_often_best_together(self):
        together = 0
        for seed in range(90):
            numbers = samples.numbers_from(7000 + seed)
            counts = [[2, 2], [3, 2], [2, 2, 1]][seed % 3]
            machines = samples.plain_machines_of(numbers, counts)
            states = samples.states_of(numbers, counts)
            together += self.check(1 + next(numbers) % 99, states, machines) > 1
        self.assertGreater(together, 10)


if __name__ == "__main__":
    unittest.main()
