"""Exact answers from the document's words, in fractions, that share nothing with the program."""

import itertools
from fractions import Fraction

MILLION = 10 ** 6


def chances(weights, count, state):
    row = weights[state * count:(state + 1) * count]
    return [Fraction(weight, sum(row)) for weight in row]


def down(fraction):
    return (fraction * MILLION).__floor__()


def steps_worth(b, k, states, machines):
    """What k pulls are worth at most: every machine is tried at every step."""
    known = {}

    def worth(left, at):
        if left == 0:
            return Fraction(0)
        if (left, at) not in known:
            known[left, at] = max(pulled(left, at, i) for i in range(len(at)))
        return known[left, at]

    def pulled(left, at, i):
        gains, weights = machines[2 * i], machines[2 * i + 1]
        later = Fraction(0)
        for state, chance in enumerate(chances(weights, len(gains), at[i])):
            if chance:
                later += chance * worth(left - 1, at[:i] + (state,) + at[i + 1:])
        return gains[at[i]] + Fraction(b, 100) * later

    return worth(k, tuple(states))


def solved(rows):
    """What solves the equations, each row with its right side last."""
    rows = [list(row) for row in rows]
    for k in range(len(rows)):
        place = next(i for i in range(k, len(rows)) if rows[i][k])
        rows[k], rows[place] = rows[place], rows[k]
        rows[k] = [x / rows[k][k] for x in rows[k]]
        for i in range(len(rows)):
            if i != k and rows[i][k]:
                rows[i] = [x - rows[i][k] * y for x, y in zip(rows[i], rows[k])]
    return [row[-1] for row in rows]


def pulled_row(machines, joint, at, i):
    """The gain of pulling machine i, and the chances to come to each of the joint states."""
    gains, weights = machines[2 * i], machines[2 * i + 1]
    row = [Fraction(0)] * len(joint)
    for state, chance in enumerate(chances(weights, len(gains), at[i])):
        row[joint.index(at[:i] + (state,) + at[i + 1:])] += chance
    return gains[at[i]], row


def best_machines(b, states, machines):
    """The machines that are best to pull: every choice of machines, one for each joint state, is tried."""
    joint = list(itertools.product(*[range(len(gains)) for gains in machines[::2]]))
    pulls = [[pulled_row(machines, joint, at, i) for i in range(len(at))] for at in joint]
    tried = []
    for choice in itertools.product(range(len(machines) // 2), repeat=len(joint)):
        rows = []
        for number, i in enumerate(choice):
            gain, row = pulls[number][i]
            rows.append([(t == number) - Fraction(b, 100) * x for t, x in enumerate(row)] + [Fraction(gain)])
        tried.append(solved(rows))
    # The best choice is best in every joint state at once.
    worths = max(tried, key=sum)
    number = joint.index(tuple(states))
    after = [gain + Fraction(b, 100) * sum(x * y for x, y in zip(row, worths)) for gain, row in pulls[number]]
    return [i for i, worth in enumerate(after) if worth == worths[number]]


def pulled_or_ended(b, rate, state, machine):
    """What it is worth to pull in the state, and what to end, for a gain of the rate in each step for ever.

    After the pull every way to go on is tried: each set of states in which one ends.
    """
    gains, weights = machine
    later = Fraction(b, 100)
    ended = rate / (1 - later)
    worths = []
    for ends in itertools.product((True, False), repeat=len(gains)):
        rows = []
        for s, gain in enumerate(gains):
            own = [Fraction(t == s) for t in range(len(gains))]
            if ends[s]:
                rows.append(own + [ended])
            else:
                rows.append([x - later * y for x, y in zip(own, chances(weights, len(gains), s))] + [Fraction(gain)])
        on = solved(rows)
        worths.append(gains[state] + later * sum(x * y for x, y in zip(chances(weights, len(gains), state), on)))
    return max(worths), ended


def is_rate(b, millionths, state, machine):
    """Whether this is the rate, cut down: one still pulls for it, and would end for a millionth more."""
    pulled, ended = pulled_or_ended(b, Fraction(millionths, MILLION), state, machine)
    pulled_above, ended_above = pulled_or_ended(b, Fraction(millionths + 1, MILLION), state, machine)
    return pulled >= ended and pulled_above < ended_above


def rate_by_sets(b, state, machine):
    """The rate: the most that is gained, for each step, till a set of states is left that holds the state.

    A step counts less later, as a gain does.
    """
    gains, weights = machine
    found = []
    for kept in itertools.product((True, False), repeat=len(gains)):
        if kept[state]:
            gained = till_left(b, kept, gains, weights)[state]
            found.append(gained / till_left(b, kept, [1] * len(gains), weights)[state])
    return max(found)


def till_left(b, kept, gains, weights):
    rows = []
    for s, gain in enumerate(gains):
        on = chances(weights, len(gains), s) if kept[s] else [0] * len(gains)
        rows.append([(t == s) - Fraction(b, 100) * x for t, x in enumerate(on)] + [Fraction(gain if kept[s] else 0)])
    return solved(rows)
