"""The calls on two stores, handed in as one list and answered as one."""

from sidecolumns.chosen import CHOSEN
from sidecolumns.common import Call
from sidecolumns.common import OutOfRange
from sidecolumns.common import Store
from sidecolumns.common import TooMany
from sidecolumns.common import Unfit
from sidecolumns.grouped import GROUPED
from sidecolumns.held import HELD
from sidecolumns.made import MADE
from sidecolumns.measured import MEASURED
from sidecolumns.moved import MOVED
from sidecolumns.paired import PAIRED


def form_of(number):
    if number in HELD:
        return HELD[number]
    if number in CHOSEN:
        return CHOSEN[number]
    if number in PAIRED:
        return PAIRED[number]
    if number in MADE:
        return MADE[number]
    if number in MEASURED:
        return MEASURED[number]
    if number in MOVED:
        return MOVED[number]
    return GROUPED[number]


def call_at(calls, at, form, stores):
    end = at + 2 + form[1]
    numbers = calls[at + 2:end]
    if not form[2]:
        return Call(numbers, [], stores, end)
    behind = end + 1 + calls[end]
    return Call(numbers, calls[end + 1:behind], stores, behind)


def answer_of(answer, store, call):
    try:
        return answer(store, call)
    except OutOfRange:
        return [-2]
    except Unfit:
        return [-3]
    except TooMany:
        return [-4]


def answers(calls):
    stores = (Store(), Store())
    told = []
    at = 0
    while at < len(calls):
        form = form_of(calls[at])
        call = call_at(calls, at, form, stores)
        answered = answer_of(form[0], stores[calls[at + 1]], call)
        told.append(len(answered))
        told.extend(answered)
        at = call.end
    return told
