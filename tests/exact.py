"""Exact answers from the document's words, in fractions, that share nothing with the program."""

from fractions import Fraction

MILLION = 10 ** 6


def chances(weights, count, state):
    row = weights[state * count:(state + 1) * count]
    return [Fraction(weight, sum(row)) for weight in row]


def down(fraction):
    return (fraction * MILLION).__floor__()


def steps_worth(b, k, states, machines):
    """What k pulls are worth at most: every machine is tried at every step."""
    known = {}

    def worth(left, at):
        if left == 0:
            return Fraction(0)
        if (left, at) not in known:
            known[left, at] = max(pulled(left, at, i) for i in range(len(at)))
        return known[left, at]

    def pulled(left, at, i):
        gains, weights = machines[2 * i], machines[2 * i + 1]
        later = Fraction(0)
        for state, chance in enumerate(chances(weights, len(gains), at[i])):
            if chance:
                later += chance * worth(left - 1, at[:i] + (state,) + at[i + 1:])
        return gains[at[i]] + Fraction(b, 100) * later

    return worth(k, tuple(states))
