"""The interface: a list of calls, written as whole numbers, and the list of their answers."""

from filevault.faults import NotAStore, NothingHeld, NotThere
from filevault.holder import Holder

BEGIN_CALL = 0
OPEN_CALL = 1
FIND_CALL = 2
ITEM_CALL = 3
CHILD_CALL = 4
# How many numbers stand behind the number of begin, open, find, item, child and read, but for rows.
PLAIN_NUMBERS = (0, 0, 0, 1, 2, 3)


def end_of_call(calls, at):
    call = calls[at]
    end = at + 1 + PLAIN_NUMBERS[call]
    if call in (OPEN_CALL, FIND_CALL):
        end += 1 + calls[end]
    return end


def answer_of_store(store, call):
    if call[0] == FIND_CALL:
        return [store.find(call[2:])]
    if call[0] == ITEM_CALL:
        return store.item(call[1])
    if call[0] == CHILD_CALL:
        return [store.child(call[1], call[2])]
    return store.read(call[1], call[2], call[3])


def answer_of(holder, call):
    if call[0] == BEGIN_CALL:
        return [holder.begin()]
    if call[0] == OPEN_CALL:
        return [holder.take_file(call[2:])]
    return answer_of_store(holder.held(), call)


def answer_or_refusal(holder, call):
    try:
        return answer_of(holder, call)
    except NothingHeld:
        return [-4]
    except NotAStore:
        return [-1]
    except NotThere:
        return [-1]


def answers(calls):
    holder = Holder()
    answered = []
    at = 0
    while at < len(calls):
        end = end_of_call(calls, at)
        answer = answer_or_refusal(holder, calls[at:end])
        answered.append(len(answer))
        answered.extend(answer)
        at = end
    return answered
