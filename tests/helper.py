"""Calls as they are laid out in the list that is handed in, and answers taken apart again."""

from ballotrows.tally import answers

ALL = 2**64 - 1
INT_LOW = -2147483648
INT_HIGH = 2147483647
EMPTY = [0] * 64
FULL = [255] * 64

BEGIN = [0]
ODD = [5]


def count(k, ballot):
    return [1, k, len(ballot)] + ballot


def uncount(k, ballot):
    return [2, k, len(ballot)] + ballot


def least(t):
    return [3, t]


def between(lo, hi):
    return [4, lo, hi]


def one(question):
    return [6, question]


def choose(how, a, b, c):
    return [7, how] + sized(a, b, c)


def pick(k, w, places, a, b):
    return [8, k, w] + sized(places, a, b)


def fields(k, x, at):
    return [9, k] + sized(x, at)


def dots(k, held, base, a, b):
    return [10, k, held] + sized(base, a, b)


def tested(w, none, a, b):
    return [11, w, none] + sized(a, b)


def join(a, b, n):
    return [12, a, b, n]


def sized(*rows):
    """Each row with how many numbers it has ahead of it."""
    return [number for given in rows for number in [len(given)] + given]


def lanes(w, numbers):
    """The bytes of these numbers in lanes of w bytes; a number below 0 as two's complement has it."""
    return [byte for number in numbers for byte in number.to_bytes(w, "little", signed=number < 0)]


def padded(given):
    return given + [0] * (64 - len(given))


def row(*questions):
    """The row in which just these bits are 1."""
    return list(sum(1 << question for question in set(questions)).to_bytes(64, "little"))


def joined(calls):
    return [number for call in calls for number in call]


def apart(told):
    """The answer of each call, by the sizes that stand ahead of them."""
    parts = []
    place = 0
    while place < len(told):
        end = place + 1 + told[place]
        if told[place] < 1 or end > len(told):
            raise AssertionError(f"the size at {place} does not fit: {told}")
        parts.append(told[place + 1:end])
        place = end
    return parts


def run(*calls):
    """The answer of each of these calls on one new tally."""
    parts = apart(answers(joined(calls)))
    if len(parts) != len(calls):
        raise AssertionError(f"{len(calls)} calls, {len(parts)} answers")
    return parts


def last(*calls):
    """The answer of the last of these calls, a begin being put ahead of the first."""
    return run(BEGIN, *calls)[-1]


def counts_after(*calls):
    """The counts of all questions behind these calls, asked by one; in parts, as a list has at most 60 calls."""
    room = 60 - 1 - len(calls)
    counts = []
    while len(counts) < 512:
        asked = range(len(counts), min(512, len(counts) + room))
        parts = run(BEGIN, *calls, *[one(question) for question in asked])
        counts.extend(part[0] for part in parts[1 + len(calls):])
    return counts
