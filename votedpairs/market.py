"""The interface of the package."""

from votedpairs.operations import carry_out
from votedpairs.reading import read_calls
from votedpairs.state import Session


def answers(calls):
    """Carry out the calls, one behind another, and tell for each how many numbers it answers, and these."""
    session = Session()
    told = []
    for number, numbers, row in read_calls(calls):
        answer = carry_out(session, number, numbers, row)
        told.append(len(answer))
        told.extend(answer)
    return told
