"""The interface: one list of calls in, one list of answers out."""

from hoistmoves.operations import State, perform


def answers(calls):
    """Do the calls one behind another, beginning without a line.

    For each call: how many numbers are answered, then these.
    """
    state = State()
    results = []
    position = 0
    while position < len(calls):
        start = position + 2
        end = start + calls[position + 1]
        answer = perform(state, calls[position], calls[start:end])
        results.append(len(answer))
        results.extend(answer)
        # Behind its numbers stands how many lists a call has, which is none.
        position = end + 1
    return results
