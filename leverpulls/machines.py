"""What machines are worth of which one is pulled at a time, which one to pull, and their rates.

The states of all machines together are one joint state, and the joint states are numbered.
A pull is a tuple (gain, total, moves): what is gained at once, the sum of the weights, and
pairs (number of the joint state gone on to, weight). Fractions are kept as whole numbers
over one divisor, which is above 0, so that nothing is cut before the end.
"""

REFUSED = -1
DONE = 0
HUNDRED = 100
MILLION = 1000000
MOST_MACHINES = 3
MOST_STATES = 4
MOST_GAIN = 1000
MOST_WEIGHT = 100
MOST_STEPS = 20


def value(b, states, machines):
    """0 and the worth of the states in millionths, or -1 alone."""
    if is_refused(b, states, machines):
        return [REFUSED]
    settled = best_worths(b, all_pulls(machines))
    return [DONE, worth_at(states, machines, settled)]


def steps(b, k, states, machines):
    """0 and what k pulls and no more are worth at most, in millionths, or -1 alone."""
    if k < 0 or k > MOST_STEPS or is_refused(b, states, machines):
        return [REFUSED]
    settled = worths_of_steps(b, k, all_pulls(machines))
    return [DONE, worth_at(states, machines, settled)]


def best(b, states, machines):
    """The sum of 2 to the i over all machines i that are best to pull, or -1, alone."""
    if is_refused(b, states, machines):
        return [REFUSED]
    pulls = all_pulls(machines)
    at_hand = pulls[joint_number(states, state_counts(machines))]
    return [sum_of_best(b, at_hand, best_worths(b, pulls))]


def rate(b, states, machines):
    """0 and each machine's rate in its state in millionths, or -1 alone."""
    if is_refused(b, states, machines):
        return [REFUSED]
    return [DONE] + [millionths(found[0], found[1]) for found in all_rates(b, states, machines)]


def order(b, states, machines):
    """0 and the machines' numbers, a greater rate first, or -1 alone."""
    if is_refused(b, states, machines):
        return [REFUSED]
    sizes = over_one_divisor(all_rates(b, states, machines))
    return [DONE] + sorted(range(len(sizes)), key=lambda i: (-sizes[i], i))


def is_refused(b, states, machines):
    count = len(machines) // 2
    if b < 1 or b > HUNDRED - 1 or count > MOST_MACHINES or len(states) != count:
        return True
    for i in range(count):
        if is_bad_machine(machines[2 * i], machines[2 * i + 1]):
            return True
        if states[i] < 0 or states[i] >= len(machines[2 * i]):
            return True
    return False


def is_bad_machine(gains, weights):
    count = len(gains)
    if count < 1 or count > MOST_STATES or len(weights) != count * count:
        return True
    if min(gains) < -MOST_GAIN or max(gains) > MOST_GAIN:
        return True
    if min(weights) < 0 or max(weights) > MOST_WEIGHT:
        return True
    return any([sum(weight_row(weights, count, state)) == 0 for state in range(count)])


def weight_row(weights, count, state):
    return weights[state * count:(state + 1) * count]


def state_counts(machines):
    return [len(machines[2 * i]) for i in range(len(machines) // 2)]


def joint_number(states, counts):
    number = 0
    for state, count in zip(states, counts):
        number = number * count + state
    return number


def joint_states(counts):
    """All joint states, each at the place that joint_number gives it."""
    found = [[]]
    for count in counts:
        longer = []
        for states in found:
            longer.extend([states + [state] for state in range(count)])
        found = longer
    return found


def all_pulls(machines):
    """For each joint state the pulls of all machines, in the order of the machines."""
    counts = state_counts(machines)
    listed = []
    for states in joint_states(counts):
        listed.append([pull_of(machines, counts, states, i) for i in range(len(counts))])
    return listed


def pull_of(machines, counts, states, i):
    row = weight_row(machines[2 * i + 1], counts[i], states[i])
    moves = []
    for state, weight in enumerate(row):
        if weight > 0:
            after = states[:i] + [state] + states[i + 1:]
            moves.append((joint_number(after, counts), weight))
    return (machines[2 * i][states[i]], sum(row), moves)


def best_worths(b, pulls):
    """The numerators of the worths of all joint states, and their divisor.

    A choice is left only for one that is worth more, so no choices come twice and the loop
    ends; what then can't be bettered anywhere is the worth itself, not something near it.
    """
    choices = [0] * len(pulls)
    while True:
        settled = worths_of_choices(b, pulls, choices)
        better = bettered_choices(b, pulls, choices, settled)
        if better == choices:
            return settled
        choices = better


def worths_of_choices(b, pulls, choices):
    rows = []
    for number in range(len(pulls)):
        rows.append(equation(b, pulls[number][choices[number]], number, len(pulls)))
    return solve(rows)


def equation(b, pull, number, count):
    """The row that says: the worth is the gain and b hundredths of the worth gone on to.

    It is multiplied by a hundred times the sum of the weights, so that it is whole.
    """
    row = [0] * count
    for after, weight in pull[2]:
        row[after] = -b * weight
    row[number] = row[number] + HUNDRED * pull[1]
    row.append(HUNDRED * pull[1] * pull[0])
    return row


def solve(rows):
    """The numerators of what solves the equations, and their divisor.

    Each row holds its right side last. With the divisor of the step before, every division
    comes out even. In each row the diagonal outweighs all else together, so no pivot is 0,
    no rows need to change places, and the divisor is above 0.
    """
    left = list(rows)
    divisor = 1
    for k in range(len(rows)):
        pivot_row = left[k]
        for i in range(len(rows)):
            if i != k:
                left[i] = reduced_row(left[i], pivot_row, k, divisor)
        divisor = pivot_row[k]
    return ([row[-1] for row in left], divisor)


def reduced_row(row, pivot_row, k, divisor):
    pivot = pivot_row[k]
    factor = row[k]
    return [(pivot * x - factor * y) // divisor for x, y in zip(row, pivot_row)]


def bettered_choices(b, pulls, choices, settled):
    better = []
    for number in range(len(pulls)):
        chosen = choices[number]
        for i in range(len(pulls[number])):
            if is_worth_more(b, pulls[number][i], pulls[number][chosen], settled):
                chosen = i
        better.append(chosen)
    return better


def is_worth_more(b, pull, other, settled):
    # Both worths are cleared of their own sum of weights by the other's.
    return pull_numerator(b, pull, settled) * other[1] > pull_numerator(b, other, settled) * pull[1]


def sum_of_best(b, at_hand, settled):
    found = 0
    power = 1
    for pull in at_hand:
        if not any([is_worth_more(b, other, pull, settled) for other in at_hand]):
            found = found + power
        power = power * 2
    return found


def pull_numerator(b, pull, settled):
    """What the pull is worth, times a hundred, its sum of weights and the divisor."""
    expected = sum([weight * settled[0][after] for after, weight in pull[2]])
    return HUNDRED * pull[1] * settled[1] * pull[0] + b * expected


def worths_of_steps(b, k, pulls):
    """The numerators of what k pulls are worth in all joint states, and their divisor."""
    common = common_multiple(pulls)
    settled = ([0] * len(pulls), 1)
    for step in range(k):
        settled = one_more_step(b, pulls, settled, common)
    return settled


def common_multiple(pulls):
    """A whole number that every pull's sum of weights divides."""
    multiple = 1
    for listed in pulls:
        for pull in listed:
            if multiple % pull[1] != 0:
                multiple = multiple * pull[1]
    return multiple


def one_more_step(b, pulls, settled, common):
    """The worths when one pull more is made, ahead of those that are settled."""
    numerators = []
    for listed in pulls:
        # Over one divisor the greatest numerator is the greatest worth.
        numerators.append(max([pull_numerator(b, pull, settled) * (common // pull[1]) for pull in listed]))
    return (numerators, HUNDRED * common * settled[1])


def all_rates(b, states, machines):
    """For each machine its rate in its state, a numerator and its divisor."""
    return [rate_of(b, states[i], machines[2 * i:2 * i + 2]) for i in range(len(states))]


def rate_of(b, state, machine):
    """The rate of one machine, given as a row of machines.

    Ending for what the state itself is worth is the same as pulling there. So one may, at any
    time, either pull on or begin anew as in that state; what the state is then worth is what
    ending is worth, and the rate is what is gained in each step for ever to be worth as much.
    """
    own = [at_hand[0] for at_hand in all_pulls(machine)]
    settled = best_worths(b, [[pull, own[state]] for pull in own])
    return (settled[0][state] * (HUNDRED - b), settled[1] * HUNDRED)


def over_one_divisor(rates):
    """The numerators of the rates over one divisor, so that they compare as the rates do."""
    common = 1
    for found in rates:
        common = common * found[1]
    return [found[0] * (common // found[1]) for found in rates]


def worth_at(states, machines, settled):
    number = joint_number(states, state_counts(machines))
    return millionths(settled[0][number], settled[1])


def millionths(numerator, divisor):
    return numerator * MILLION // divisor
