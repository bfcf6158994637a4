"""Calls written by name, and answers taken apart, one list for each call."""

from slipshelf.binder import answers

LAST_DAY = 292193
LAST_READER = 65535
LAST_FILE = 16383
HIGHEST = 4294967295
MOST_CALLS = 700


def begin():
    return [1]


def ask(d, reader, days, files):
    return [2, d, reader, days, len(files)] + list(files)


def back(d, f):
    return [3, d, f]


def drop(d, q):
    return [4, d, q]


def count(k):
    return [5, k]


def who(k, f):
    return [6, k, f]


def slip(k, q):
    return [7, k, q]


def files_of(k, q):
    return [8, k, q]


def waits(k, q):
    return [9, k, q]


def late(k, x):
    return [10, k, x]


def when(k, q, x):
    return [11, k, q, x]


def joined(calls):
    return [number for call in calls for number in call]


def parted(told):
    parts = []
    at = 0
    while at < len(told):
        size = told[at]
        parts.append(told[at + 1:at + 1 + size])
        at += 1 + size
    if at != len(told):
        raise ValueError("the last answer is cut short")
    return parts


def run(calls):
    """The answers to a list of calls, a list for each."""
    parts = parted(answers(joined(calls)))
    if len(parts) != len(calls):
        raise ValueError(f"{len(calls)} calls, {len(parts)} answers")
    return parts


def last(*calls):
    """The answer to the last of some calls."""
    return run(list(calls))[-1]


def asked(row, questions):
    """The answers to some questions behind a row of calls: in several lists, for one has at most 700 calls."""
    room = MOST_CALLS - len(row)
    told = []
    for at in range(0, len(questions), room):
        told.extend(run(row + questions[at:at + room])[len(row):])
    return told


def entries(many, day=0):
    """So many entries (3 or more) of one day, each of them taken.

    Behind them files 1 to 8 are out with slip 0, and slips 1 and 2 wait for file 8.
    """
    made = [ask(day, 1, 5, range(1, 9)), ask(day, 2, 5, [8]), ask(day, 3, 5, [8])]
    while len(made) < many:
        made.append(ask(day, 4, 5, range(100, 108)))
        made.extend([back(day, f) for f in range(100, 108)])
    return made[:many]


def slips(many, day=0):
    """So many slips of one day that all ask for file 7: slip 0 has it, the others wait."""
    return [ask(day, 1, 5, [7]) for number in range(many)]


def whole_view(days, files, numbers):
    """Every question that these days, files and slips allow."""
    questions = []
    for k in days:
        questions.append(count(k))
        questions.extend([who(k, f) for f in files])
        questions.extend([late(k, x) for x in (max(0, k - 3), k, k + 4, k + 9)])
        for q in numbers:
            questions.extend([slip(k, q), files_of(k, q), waits(k, q), when(k, q, k), when(k, q, k + 6)])
    return questions
