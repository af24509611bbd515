"""The program's one function: a list of calls in, a list of answers out."""

from tiedtangles.sessions import Session


def answers(calls):
    """Carries out the calls on one new object, as DOC.md tells under "The interface"."""
    session = Session()
    answered = []
    start = 0
    while start < len(calls):
        first_value = start + 2
        behind_values = first_value + calls[start + 1]
        answer = session.answer(calls[start], calls[first_value:behind_values])
        answered.append(len(answer))
        answered.extend(answer)
        # Behind the values stands how many lists the call has, which is always 0.
        start = behind_values + 1
    return answered
