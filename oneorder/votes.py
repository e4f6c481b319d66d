"""The interface: one list of calls on four booths and one office, and its answers."""

from oneorder.booth import Booth
from oneorder.office import Office

VB_START = 0
VB_VOTE = 1
VB_CLOSE = 2
VB_AGAIN = 3
VO_START = 4

BOOTHS_OF_A_LIST = 4

# How many numbers a call without a row has, by the call's number; that number and the object are among them.
LENGTHS = {0: 4, 2: 2, 3: 3, 4: 4}


def end_of_call(calls, at):
    """Answer the place behind the call that begins at this place."""
    if calls[at] == VB_VOTE:
        return at + 3 + calls[at + 2]
    return at + LENGTHS[calls[at]]


def booth_answer(call, booth):
    """Answer a call on a booth."""
    if call[0] == VB_START:
        return booth.start(call[2], call[3])
    if call[0] == VB_VOTE:
        return booth.vote(call[3:])
    if call[0] == VB_CLOSE:
        return booth.close()
    return booth.again(call[2])


def answer_of(call, booths, office):
    """Answer one call."""
    if call[0] == VO_START:
        return office.start(call[2], call[3])
    return booth_answer(call, booths[call[1]])


def answers(calls):
    """Answer all calls of a list, each answer with how many numbers it has before it."""
    booths = [Booth() for number in range(BOOTHS_OF_A_LIST)]
    office = Office()
    answered = []
    at = 0
    while at < len(calls):
        end = end_of_call(calls, at)
        answer = answer_of(calls[at:end], booths, office)
        answered.append(len(answer))
        answered.extend(answer)
        at = end
    return answered
