"""What holds for a call besides its answer: nothing is changed, nothing is kept."""

import copy
import unittest

from leverpulls import machines as program

import calls

MACHINES = [[3, -6, 2], [0, 1, 2, 5, 0, 5, 1, 1, 1], [4, 0], [1, 3, 2, 2]]


def never(self, *args, **kwargs):
    raise AssertionError("what was handed in was changed")


class Sealed(list):
    """A list that fails at the first try to change it, even if that were undone later."""

    append = clear = extend = insert = pop = remove = reverse = sort = never
    __setitem__ = __delitem__ = __iadd__ = __imul__ = never


class Calls(unittest.TestCase):
    def test_what_is_handed_in_stays_the_same(self):
        for name, call in calls.CALLS.items():
            for b, states in ((80, [1, 0]), (0, [1, 0]), (80, [3, 0])):
                machines = copy.deepcopy(MACHINES)
                before = copy.deepcopy((states, machines))
                call(b, states, machines)
                self.assertEqual((states, machines), before, name)

    def test_it_is_not_changed_for_a_while_either(self):
        sealed = Sealed([Sealed(numbers) for numbers in MACHINES])
        for name, call in calls.CALLS.items():
            self.assertEqual(call(80, Sealed([1, 0]), sealed), call(80, [1, 0], MACHINES), name)

    def test_the_same_call_twice(self):
        for name, call in calls.CALLS.items():
            first = call(80, [1, 0], MACHINES)
            kept = list(first)
            first.append(5)
            first[0] = 9
            call(30, [2, 1], MACHINES)
            refusal = call(0, [2, 1], MACHINES)
            refusal.append(7)
            self.assertEqual(call(80, [1, 0], MACHINES), kept, name)
            self.assertEqual(call(0, [2, 1], MACHINES), [-1], name)

    def test_the_answer_is_a_list_of_whole_numbers(self):
        for name, call in calls.CALLS.items():
            for b in (0, 80):
                answer = call(b, [1, 0], MACHINES)
                self.assertIs(type(answer), list, name)
                self.assertEqual({type(number) for number in answer}, {int}, name)

    def test_arguments_by_name(self):
        self.assertEqual(program.value(b=90, states=[0], machines=[[5], [1]]), [0, 50000000])
        self.assertEqual(program.steps(b=90, k=2, states=[0], machines=[[5], [1]]), [0, 9500000])
        self.assertEqual(program.best(b=90, states=[0, 0], machines=[[5], [1], [6], [1]]), [2])
        self.assertEqual(program.rate(b=90, states=[0, 0], machines=[[5], [1], [6], [1]]), [0, 5000000, 6000000])
        self.assertEqual(program.order(b=90, states=[0, 0], machines=[[5], [1], [6], [1]]), [0, 1, 0])

    def test_arguments_by_place(self):
        # b 2 and k 1 against b 1 and k 2
        self.assertEqual(program.steps(2, 1, [0], [[5], [1]]), [0, 5000000])
        self.assertEqual(program.steps(1, 2, [0], [[5], [1]]), [0, 5050000])


if __name__ == "__main__":
    unittest.main()
