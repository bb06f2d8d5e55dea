"""The calls on one book, all in one list, and their answers, all in one list."""

from herdwhole.herd import Herd

HB_START = 0
HB_NEW = 1
HB_BORN = 2
HB_GONE = 3
HB_KIN = 4
HB_HERD = 5

# By a call's number: how many whole numbers stand behind it.
GIVEN_COUNTS = (0, 1, 3, 1, 2, 0, 1)


def answers(calls):
    herd = Herd()
    told = []
    place = 0
    while place < len(calls):
        call = calls[place]
        behind = place + 1 + GIVEN_COUNTS[call]
        answer = answer_call(herd, call, calls[place + 1:behind])
        told.append(len(answer))
        told.extend(answer)
        place = behind
    return told


def answer_call(herd, call, given):
    """Give all that one call answers, as a list: how many numbers it has is told ahead of them."""
    if call == HB_START:
        return [herd.begin()]
    if call == HB_NEW:
        return [herd.take_in(given[0])]
    if call == HB_BORN:
        return [herd.breed(given[0], given[1], given[2])]
    if call == HB_GONE:
        return [herd.let_go(given[0])]
    if call == HB_KIN:
        return herd.tell_kin(given[0], given[1])
    if call == HB_HERD:
        return herd.tell_herd()
    return herd.tell_plan(given[0])
