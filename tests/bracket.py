"""Bounds of the worth that share nothing with the program.

The worth is squeezed between two rounds of the document's own equation, one begun below
every worth and rounded down, one begun above and rounded up.
"""

import itertools

FINE = 10 ** 40


def joint_states(machines):
    return list(itertools.product(*[range(len(gains)) for gains in machines[::2]]))


def pulls(machines, states):
    for i, state in enumerate(states):
        gains, weights = machines[2 * i], machines[2 * i + 1]
        row = weights[state * len(gains):(state + 1) * len(gains)]
        after = [(states[:i] + (t,) + states[i + 1:], w) for t, w in enumerate(row)]
        yield gains[state], sum(row), after


def next_round(b, machines, worths, up):
    found = {}
    for states in worths:
        options = []
        for gain, total, after in pulls(machines, states):
            expected = b * sum(w * worths[t] for t, w in after)
            divisor = 100 * total
            later = -(-expected // divisor) if up else expected // divisor
            options.append(gain * FINE + later)
        found[states] = max(options)
    return found


def worth_bounds(b, states, machines):
    """Two whole numbers of millionths between which the worth, cut down, lies."""
    far = 1000 * 100 * FINE // (100 - b) + 1
    low = {s: -far for s in joint_states(machines)}
    high = {s: far for s in joint_states(machines)}
    start = tuple(states)
    rounds = 0
    while high[start] - low[start] > FINE // 10 ** 15 and rounds < 6000:
        low = next_round(b, machines, low, False)
        high = next_round(b, machines, high, True)
        rounds += 1
    return low[start] * 10 ** 6 // FINE, high[start] * 10 ** 6 // FINE
