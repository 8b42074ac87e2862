"""Machines to try, made of numbers that are the same ones every time."""


def numbers_from(seed):
    """Numbers below 2 to the 15, without end."""
    while True:
        seed = (seed * 1103515245 + 12345) % 2147483648
        yield seed // 65536


def machine(numbers, count, most):
    gains = [next(numbers) % (2 * most + 1) - most for i in range(count)]
    weights = [max(0, next(numbers) % 160 - 59) for i in range(count * count)]
    for state in range(count):
        weights[state * count + (state + 1) % count] += 1 - min(1, sum(weights[state * count:][:count]))
    return [gains, weights]


def machines_of(numbers, counts, most):
    machines = []
    for count in counts:
        machines += machine(numbers, count, most)
    return machines


def states_of(numbers, counts):
    return [next(numbers) % count for count in counts]
