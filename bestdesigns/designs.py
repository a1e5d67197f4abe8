"""The interface: a list of calls on one new object, and the list of their answers."""

from bestdesigns.operations import OPERATIONS
from bestdesigns.state import Design, NotCreated, Refusal

CREATE = 0
WITH_NUMBER = (0, 2, 3, 12, 14, 17, 18, 19, 20)
WITH_LIST = (1, 4, 9, 21, 22)


def answers(calls):
    """For each call, in order: how many numbers are answered, and these."""
    design = Design()
    told = []
    start = 0
    while start < len(calls):
        end = end_of_call(calls, start)
        answer = answer_to(design, calls[start:end])
        told.append(len(answer))
        told.extend(answer)
        start = end
    return told


def end_of_call(calls, start):
    """The place behind the call that starts here."""
    if calls[start] in WITH_LIST:
        return start + 2 + calls[start + 1]
    if calls[start] in WITH_NUMBER:
        return start + 2
    return start + 1


def answer_to(design, call):
    """What the operation answers; an error is its code alone."""
    try:
        return carry_out(design, call)
    except Refusal as refusal:
        return [refusal.code]


def carry_out(design, call):
    """Carry out one call, unless the design must be created first."""
    if call[0] != CREATE and design.column_count == 0:
        raise NotCreated()
    operation = OPERATIONS[call[0]]
    if call[0] in WITH_LIST:
        return operation(design, call[2:])
    if call[0] in WITH_NUMBER:
        return operation(design, call[1])
    return operation(design)
