"""Machines to try, made of numbers that are the same ones every time."""


def numbers_from(seed):
    """Numbers below 2 to the 15, without end."""
    while True:
        seed = (seed * 1103515245 + 12345) % 2147483648
        yield seed // 65536


def machine(numbers, count, most):
    gains = [next(numbers) % (2 * most + 1) - most for i in range(count)]
    weights = [max(0, next(numbers) % 160 - 59) for i in range(count * count)]
    for state in range(count):
        weights[state * count + (state + 1) % count] += 1 - min(1, sum(weights[state * count:][:count]))
    return [gains, weights]


def machines_of(numbers, counts, most):
    machines = []
    for count in counts:
        machines += machine(numbers, count, most)
    return machines


def states_of(numbers, counts):
    return [next(numbers) % count for count in counts]


def plain_machine(numbers, count):
    """One of few gains and few weights, so that machines are often best together."""
    gains = [next(numbers) % 3 for i in range(count)]
    weights = [next(numbers) % 2 for i in range(count * count)]
    for state in range(count):
        weights[state * count + state] += 1 - min(1, sum(weights[state * count:][:count]))
    return [gains, weights]


def plain_machines_of(numbers, counts):
    machines = []
    for count in counts:
        machines += plain_machine(numbers, count)
    return machines
