"""The program's functions as calls of one form, call(b, states, machines), and the form of their answers."""

from leverpulls import machines as program


def steps(b, states, machines):
    return program.steps(b, 3, states, machines)


CALLS = {"value": program.value, "steps": steps, "best": program.best, "rate": program.rate, "order": program.order}


def is_taken(name, machines, answer):
    """Whether the answer has the form of one that is no refusal."""
    if name == "best":
        return len(answer) == 1 and 1 <= answer[0] < 2 ** (len(machines) // 2)
    if name == "rate":
        return len(answer) == 1 + len(machines) // 2 and answer[0] == 0
    if name == "order":
        return answer[0] == 0 and sorted(answer[1:]) == list(range(len(machines) // 2))
    return len(answer) == 2 and answer[0] == 0
