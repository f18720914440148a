"""The interface: a session's calls in one list, and their answers in another."""

from seatwave.calls import split_calls
from seatwave.session import Session


def answers(calls):
    """Execute the calls of one session; for each, list how many numbers are answered, then these."""
    session = Session()
    answered = []
    for number, arguments in split_calls(calls):
        answer = session.answer(number, arguments)
        answered.append(len(answer))
        answered.extend(answer)
    return answered
