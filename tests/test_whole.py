"""What holds over the whole program: the five functions beside one another, each call by itself."""

import inspect
import unittest

from leverpulls import machines as program

import calls
import samples

NAMES = {"value": ["b", "states", "machines"], "steps": ["b", "k", "states", "machines"],
         "best": ["b", "states", "machines"], "rate": ["b", "states", "machines"],
         "order": ["b", "states", "machines"]}


class Interface(unittest.TestCase):
    def test_names_and_arguments(self):
        for name, arguments in NAMES.items():
            self.assertEqual(list(inspect.signature(getattr(program, name)).parameters), arguments)

    def test_every_function_is_tried_by_the_tests_of_calls(self):
        self.assertEqual(set(calls.CALLS), set(NAMES))


class EachCallByItself(unittest.TestCase):
    def sample_calls(self):
        """Calls of all functions, refused ones among them, as pairs of a function and what is handed in."""
        listed = []
        for seed, counts in enumerate([[2, 3], [4], [2, 2, 2], [1, 4], [2, 3, 4]]):
            numbers = samples.numbers_from(13000 + seed)
            machines, states = samples.machines_of(numbers, counts, 9), samples.states_of(numbers, counts)
            for b in (0, 40, 90):
                listed += [(call, (b, states, machines)) for call in calls.CALLS.values()]
            listed += [(call, (40, states + [0], machines)) for call in calls.CALLS.values()]
        return listed

    def test_whatever_was_called_before(self):
        listed = self.sample_calls()
        forth = [call(*handed) for call, handed in listed]
        back = [call(*handed) for call, handed in reversed(listed)]
        self.assertEqual(forth, back[::-1])
        for step in (3, 7):
            for i in range(0, len(listed), step):
                call, handed = listed[i]
                self.assertEqual(call(*handed), forth[i])

    def test_an_answer_that_is_changed_changes_no_other(self):
        listed = self.sample_calls()
        kept = []
        for call, handed in listed:
            answer = call(*handed)
            kept.append(list(answer))
            answer.clear()
        self.assertEqual([call(*handed) for call, handed in listed], kept)


class Together(unittest.TestCase):
    def check(self, b, states, machines):
        """The machines of the greatest rate, and no others, are best to pull."""
        bits = program.best(b, states, machines)[0]
        best = [i for i in range(len(states)) if bits >> i & 1]
        ranked = program.order(b, states, machines)[1:]
        rates = program.rate(b, states, machines)[1:]
        self.assertEqual(ranked[:len(best)], best, (b, states, machines))
        self.assertEqual({rates[i] for i in best}, {max(rates)}, (b, states, machines))
        self.assertEqual([rates[i] for i in ranked], sorted(rates, reverse=True))

    def test_the_rates_decide_which_machine_is_best(self):
        for seed in range(120):
            numbers = samples.numbers_from(14000 + seed)
            counts = [[2, 2], [3, 2], [2, 2, 2], [2, 3, 4], [4, 1, 3], [4, 4]][seed % 6]
            if seed % 4:
                machines = samples.plain_machines_of(numbers, counts)
            else:
                machines = samples.machines_of(numbers, counts, 1000)
            self.check(1 + next(numbers) % 99, samples.states_of(numbers, counts), machines)

    def test_a_machine_that_stays_is_worth_its_rate_for_ever(self):
        for gain in (-1000, -3, 0, 8, 1000):
            machines = [[gain], [1]]
            self.assertEqual(program.rate(50, [0], machines), [0, gain * 1000000])
            self.assertEqual(program.value(50, [0], machines), [0, gain * 2000000])

    def test_more_pulls_of_no_loss_are_worth_no_less_and_at_most_the_worth(self):
        for seed in range(12):
            numbers = samples.numbers_from(15000 + seed)
            machines, states = samples.plain_machines_of(numbers, [3, 2]), samples.states_of(numbers, [3, 2])
            b = 1 + next(numbers) % 99
            worths = [program.steps(b, k, states, machines)[1] for k in range(21)]
            worths.append(program.value(b, states, machines)[1])
            self.assertEqual(worths, sorted(worths))


if __name__ == "__main__":
    unittest.main()
