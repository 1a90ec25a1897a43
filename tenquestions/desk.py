"""The desk: where a line of calls is handed in and its answers are given back."""

from tenquestions.calls import answered, end_of_call, new_registers


def answers(calls):
    """For each call of the line, in order: how many numbers are answered, then these."""
    registers = new_registers()
    given = []
    at = 0
    while at < len(calls):
        end = end_of_call(calls, at)
        answer = answered(registers, calls[at], calls[at + 1:end])
        given.append(len(answer))
        given.extend(answer)
        at = end
    return given
