"""The interface: one list of calls on four booths and one office, and its answers."""

from oneorder.booth import Booth
from oneorder.office import Office

VB_START = 0
VB_VOTE = 1
VB_CLOSE = 2
VB_AGAIN = 3
VO_START = 4
VO_HEARD = 5
VO_LACKS = 6
VO_PREFER = 7
VO_ORDER = 8
VO_AGAINST = 9

BOOTHS_OF_A_LIST = 4

# How many numbers a call has, by the call's number; that number and the object are among them. Of a call with a
# row it is how many are ahead of the row, the last of them how many the row has.
LENGTHS = (4, 3, 2, 3, 4, 3, 3, 4, 2, 3)


def end_of_call(calls, at):
    """Answer the place behind the call that begins at this place."""
    end = at + LENGTHS[calls[at]]
    if calls[at] in (VB_VOTE, VO_HEARD, VO_AGAINST):
        return end + calls[end - 1]
    return end


def booth_answer(call, booth):
    """Answer a call on a booth."""
    if call[0] == VB_START:
        return booth.start(call[2], call[3])
    if call[0] == VB_VOTE:
        return booth.vote(call[3:])
    if call[0] == VB_CLOSE:
        return booth.close()
    return booth.again(call[2])


def office_answer(call, office):
    """Answer a call on the office."""
    if call[0] == VO_START:
        return office.start(call[2], call[3])
    if call[0] == VO_HEARD:
        return office.heard(call[3:])
    if call[0] == VO_LACKS:
        return office.lacks(call[2])
    if call[0] == VO_PREFER:
        return office.prefer(call[2], call[3])
    if call[0] == VO_ORDER:
        return office.order()
    return office.against(call[3:])


def answer_of(call, booths, office):
    """Answer one call."""
    if call[0] <= VB_AGAIN:
        return booth_answer(call, booths[call[1]])
    return office_answer(call, office)


def answers(calls):
    """Answer all calls of a list, each answer with how many numbers it has before it."""
    booths = [Booth() for number in range(BOOTHS_OF_A_LIST)]
    office = Office()
    answered = []
    at = 0
    while at < len(calls):
        end = end_of_call(calls, at)
        answer = answer_of(calls[at:end], booths, office)
        answered.append(len(answer))
        answered.extend(answer)
        at = end
    return answered
