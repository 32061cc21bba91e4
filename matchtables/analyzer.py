"""Reads a list of calls and answers them in their order."""

from matchtables.session import Session

TABLE = 0
ENTRY = 1
GONE = 2
OTHER = 3
FIND = 4
SHARES = 5
MISSES = 6

# By call: how many whole numbers stand ahead of its row, and whether it has a row.
PLAIN_COUNTS = (0, 2, 1, 1, 0, 0, 0, 1)
HAS_ROW = (True, True, False, False, True, False, False, False)


def answers(calls):
    """Answer each call: how many numbers the answer has, then these."""
    session = Session()
    given = []
    at = 0
    while at < len(calls):
        operation = calls[at]
        row_at = at + 1 + PLAIN_COUNTS[operation]
        plain = calls[at + 1:row_at]
        row = []
        at = row_at
        if HAS_ROW[operation]:
            row = calls[row_at + 1:row_at + 1 + calls[row_at]]
            at = row_at + 1 + len(row)
        answer = call_answer(session, operation, plain, row)
        given.append(len(answer))
        given.extend(answer)
    return given


def call_answer(session, operation, plain, row):
    """Carry out one call and give its answer."""
    if operation == TABLE:
        return session.new_table(row)
    if operation == ENTRY:
        return session.new_entry(plain[0], plain[1], row)
    if operation == GONE:
        return session.gone(plain[0])
    if operation == OTHER:
        return session.other(plain[0])
    if operation == FIND:
        return session.find(row)
    if operation == SHARES:
        return session.shares()
    if operation == MISSES:
        return session.misses()
    # The one call left is 7, matters.
    return session.matters(plain[0])
