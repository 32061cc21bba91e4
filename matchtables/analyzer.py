"""Reads a list of calls and answers them in their order."""

from matchtables.session import Session

TABLE = 0
ENTRY = 1
GONE = 2
OTHER = 3
FIND = 4
SHARES = 5
MISSES = 6
MATTERS = 7
SPARE = 8
DROP = 9
OVERLAP = 10
DOING = 11
KEEP = 12
DIFFER = 13

# By call: how many whole numbers stand ahead of its row, and whether it has a row.
PLAIN_COUNTS = (0, 2, 1, 1, 0, 0, 0, 1, 0, 0, 2, 1, 0, 0, 0)
HAS_ROW = (True, True, False, False, True, False, False, False, False, False, False, False, False, False, False)


def answers(calls):
    """Answer each call: how many numbers the answer has, then these."""
    session = Session()
    given = []
    at = 0
    while at < len(calls):
        operation = calls[at]
        row_at = at + 1 + PLAIN_COUNTS[operation]
        plain = calls[at + 1:row_at]
        row = []
        at = row_at
        if HAS_ROW[operation]:
            row = calls[row_at + 1:row_at + 1 + calls[row_at]]
            at = row_at + 1 + len(row)
        answer = call_answer(session, operation, plain, row)
        given.append(len(answer))
        given.extend(answer)
    return given


def call_answer(session, operation, plain, row):
    """Carry out one call and give its answer."""
    if operation == TABLE:
        return session.new_table(row)
    if operation == ENTRY:
        return session.new_entry(plain[0], plain[1], row)
    if operation == GONE:
        return session.gone(plain[0])
    if operation == OTHER:
        return session.other(plain[0])
    if operation == FIND:
        return session.find(row)
    if operation == SHARES:
        return session.shares()
    if operation == MISSES:
        return session.misses()
    if operation == MATTERS:
        return session.matters(plain[0])
    if operation == SPARE:
        return session.spare()
    if operation == DROP:
        return session.drop()
    if operation == OVERLAP:
        return session.overlap(plain[0], plain[1])
    if operation == DOING:
        return session.doing(plain[0])
    if operation == KEEP:
        return session.keep()
    if operation == DIFFER:
        return session.differ()
    # The one call left is 14, list.
    return session.listed()
