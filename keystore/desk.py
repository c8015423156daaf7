"""The desk: a present state, older ones and transactions, and the calls on it."""

from keystore.maps import DOWN, UP, empty_map
from keystore.reader import Reader, WrongForm
from keystore.record import read_record
from keystore.replies import ABSENT, CLASH, DONE, WRONG, reply
from keystore.state import state_after
from keystore.transaction import Transaction

# Transactions are numbered from 0 on, and older states too: so many of each.
SLOTS = 8


class Desk:
    def __init__(self):
        self.present = empty_map()
        self.older_states = {}
        self.transactions = {}


def is_slot(number):
    return 0 <= number < SLOTS


def refusal(number, filled):
    """Why nothing can be done with what has this number, or DONE if something can."""
    if not is_slot(number):
        return WRONG
    if number not in filled:
        return ABSENT
    return DONE


def begin(desk, given):
    if not is_slot(given[0]):
        return reply(WRONG)
    desk.transactions[given[0]] = Transaction(desk.present)
    return reply(DONE)


def older(desk, given):
    # The transaction's number is asked first: -1 of it goes ahead of -2 of the state's.
    if not is_slot(given[0]):
        return reply(WRONG)
    refused = refusal(given[1], desk.older_states)
    if refused != DONE:
        return reply(refused)
    desk.transactions[given[0]] = Transaction(desk.older_states[given[1]])
    return reply(DONE)


def commit(desk, given):
    refused = refusal(given[0], desk.transactions)
    if refused != DONE:
        return reply(refused)
    transaction = desk.transactions.pop(given[0])
    if transaction.clashes_with(desk.present):
        return reply(CLASH)
    changes = transaction.draft.changes
    desk.present = state_after(desk.present, changes)
    return reply(len(changes))


def drop(desk, given):
    return empty_slot(given[0], desk.transactions)


def keep(desk, given):
    if not is_slot(given[0]):
        return reply(WRONG)
    desk.older_states[given[0]] = desk.present
    return reply(DONE)


def forget(desk, given):
    return empty_slot(given[0], desk.older_states)


def empty_slot(number, filled):
    refused = refusal(number, filled)
    if refused == DONE:
        filled.pop(number)
    return reply(refused)


def replay(desk, given):
    try:
        changes = read_record(given[0])
    except WrongForm:
        return reply(WRONG)
    desk.present = state_after(desk.present, changes)
    return reply(len(changes))


def get(transaction, given):
    return transaction.get(given[1])


def put(transaction, given):
    return transaction.put(given[1], given[2])


def remove(transaction, given):
    return transaction.remove(given[1])


def add(transaction, given):
    return transaction.add(given[2], given[1])


def next_key(transaction, given):
    return transaction.nearest(given[2], given[1], UP)


def key_before(transaction, given):
    return transaction.nearest(given[2], given[1], DOWN)


def count(transaction, given):
    return transaction.count(given[2], given[3], given[1])


def save(transaction, given):
    return transaction.save()


def back(transaction, given):
    return transaction.back(given[1])


def list_changes(transaction, given):
    return transaction.list_changes()


# How many whole numbers a call has, and how many rows behind them.
FORMS = {
    1: (1, 0),
    2: (2, 0),
    3: (1, 0),
    4: (1, 0),
    5: (1, 0),
    6: (1, 0),
    7: (0, 1),
    10: (1, 1),
    11: (1, 2),
    12: (1, 1),
    13: (2, 1),
    14: (2, 1),
    15: (2, 1),
    16: (2, 2),
    17: (1, 0),
    18: (2, 0),
    19: (1, 0),
}

DESK_CALLS = {1: begin, 2: older, 3: commit, 4: drop, 5: keep, 6: forget, 7: replay}

STEPS = {
    10: get,
    11: put,
    12: remove,
    13: add,
    14: next_key,
    15: key_before,
    16: count,
    17: save,
    18: back,
    19: list_changes,
}


def read_given(reader, call):
    """What a call is given: its whole numbers, then its rows."""
    form = FORMS[call]
    given = list(reader.take(form[0]))
    for row in range(form[1]):
        given.append(reader.take_counted())
    return given


def do_call(desk, call, given):
    if call in DESK_CALLS:
        return DESK_CALLS[call](desk, given)
    refused = refusal(given[0], desk.transactions)
    if refused != DONE:
        return reply(refused)
    return STEPS[call](desk.transactions[given[0]], given)


def answers(calls):
    """What the calls answer, made one after another on a new desk, each behind its length."""
    desk = Desk()
    reader = Reader(calls)
    told = []
    while not reader.ended():
        call = reader.take_one()
        answer = do_call(desk, call, read_given(reader, call))
        told.append(len(answer))
        told.extend(answer)
    return told
