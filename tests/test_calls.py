"""What holds for a call besides its answer: nothing is changed, nothing is kept."""

import copy
import unittest

from leverpulls import machines as program

MACHINES = [[3, -6, 2], [0, 1, 2, 5, 0, 5, 1, 1, 1], [4, 0], [1, 3, 2, 2]]


def never(self, *args, **kwargs):
    raise AssertionError("what was handed in was changed")


class Sealed(list):
    """A list that fails at the first try to change it, even if that were undone later."""

    append = clear = extend = insert = pop = remove = reverse = sort = never
    __setitem__ = __delitem__ = __iadd__ = __imul__ = never


class Calls(unittest.TestCase):
    def test_what_is_handed_in_stays_the_same(self):
        for b, states, machines in ((80, [1, 0], MACHINES), (0, [1, 0], MACHINES), (80, [3, 0], MACHINES)):
            states, machines = list(states), copy.deepcopy(machines)
            before = copy.deepcopy((states, machines))
            program.value(b, states, machines)
            self.assertEqual((states, machines), before)

    def test_it_is_not_changed_for_a_while_either(self):
        sealed = Sealed([Sealed(numbers) for numbers in MACHINES])
        answer = program.value(80, Sealed([1, 0]), sealed)
        self.assertEqual(answer, program.value(80, [1, 0], MACHINES))

    def test_the_same_call_twice(self):
        first = program.value(80, [1, 0], MACHINES)
        kept = list(first)
        first.append(5)
        first[0] = 9
        program.value(30, [2, 1], MACHINES)
        refusal = program.value(0, [2, 1], MACHINES)
        refusal.append(7)
        self.assertEqual(program.value(80, [1, 0], MACHINES), kept)
        self.assertEqual(program.value(0, [2, 1], MACHINES), [-1])

    def test_the_answer_is_a_list_of_whole_numbers(self):
        for b in (0, 80):
            answer = program.value(b, [1, 0], MACHINES)
            self.assertIs(type(answer), list)
            self.assertEqual({type(number) for number in answer}, {int})

    def test_arguments_by_name(self):
        self.assertEqual(program.value(b=90, states=[0], machines=[[5], [1]]), [0, 50000000])


if __name__ == "__main__":
    unittest.main()
