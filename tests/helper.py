"""How the tests write calls, and how they take the answers apart."""

from seenby.sheet import Sheet, answer, answers, made_by

PUT, ADD, COPY, SUM, EXCHANGE, IF_NOUGHT = range(6)
KINDS = (PUT, ADD, COPY, SUM, EXCHANGE, IF_NOUGHT)

# By kind: which of a, b, c, v it names.
NAMED = ("av", "av", "ab", "abc", "ab", "abv")

EVERYBODY = 65535
GREATEST = 4294967295

BEGIN = [0]


def do(who, kind, a=0, b=0, c=0, v=0, mask=EVERYBODY):
    return [1, who, kind, a, b, c, v, mask]


def put(a, v=7, who=0, mask=EVERYBODY):
    return do(who, PUT, a=a, v=v, mask=mask)


def add(a, v=7, who=0, mask=EVERYBODY):
    return do(who, ADD, a=a, v=v, mask=mask)


def copy(a, b, who=0, mask=EVERYBODY):
    return do(who, COPY, a=a, b=b, mask=mask)


def total(a, b, c, who=0, mask=EVERYBODY):
    return do(who, SUM, a=a, b=b, c=c, mask=mask)


def exchange(a, b, who=0, mask=EVERYBODY):
    return do(who, EXCHANGE, a=a, b=b, mask=mask)


def if_nought(a, b, v=7, who=0, mask=EVERYBODY):
    return do(who, IF_NOUGHT, a=a, b=b, v=v, mask=mask)


def take(n, who=0):
    return [2, who, n]


def all_of(n, who=0):
    return [3, who, n]


def give(n, who=0):
    return [4, who, n]


def read(c, who=0):
    return [5, who, c]


def seen(c):
    return [6, c]


def from_(c):
    return [7, c]


def flat(calls):
    return [number for call in calls for number in call]


def apart(numbers):
    """The answers, a list each, out of the one list that was given back."""
    lists = []
    place = 0
    while place < len(numbers):
        first = place + 1
        place = first + numbers[place]
        lists.append(numbers[first:place])
    return lists


def told(*calls):
    """What's answered to the calls, behind a begin: a list each."""
    given = apart(answers(flat((BEGIN,) + calls)))
    if len(given) != len(calls) + 1 or given[0] != [0]:
        raise AssertionError(f"not one answer a call: {given}")
    return given[1:]


def last_told(*calls):
    """The answer to the last of the calls, as a list."""
    return told(*calls)[-1]


def ask(*calls):
    """What's answered to the calls, behind a begin, where each answer is one number."""
    given = told(*calls)
    for numbers in given:
        if len(numbers) != 1:
            raise AssertionError(f"not one number in the answer: {numbers}")
    return [numbers[0] for numbers in given]


def last(*calls):
    """The answer to the last of the calls, where each answer is one number."""
    return ask(*calls)[-1]


def view(*calls):
    """How the calls leave the sheet: from and seen of each cell, all values, which steps are there."""
    asked = [from_(c) for c in range(32)] + [seen(c) for c in range(32)]
    shown = told(*calls, *asked)[len(calls):]
    sheet = sheet_behind(*calls)
    return shown, made_by(sheet.steps), [step.there for step in sheet.steps]


def sheet_behind(*calls):
    """The sheet as the calls leave it."""
    sheet = Sheet()
    for call in (BEGIN,) + calls:
        answer(sheet, call[0], call[1:])
    return sheet
