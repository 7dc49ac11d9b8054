"""All points together: many lists of calls against a model.

The model keeps a dict of counts, and works on large numbers, on texts of bits and on what struct unpacks, so that it
goes other ways than the program.
"""

import random
import struct
import unittest

from tests.helper import (
    ALL, BEGIN, INT_HIGH, INT_LOW, ODD, between, choose, count, dots, fields, join, least, one, pick, run, tested,
    uncount,
)

# What bit i of the number is for three bits that stand as those of i do, the first the highest.
TRUTHS = {0: 0xE8, 1: 0xCA, 2: 0x96, 3: 0x16, 4: 0x81}
SIGNS = {1: "B", 2: "H", 4: "I", 8: "Q"}


def bits_of(row, size=512):
    """The bits as a text, bit 0 first."""
    return format(int.from_bytes(row, "little"), f"0{size}b")[::-1]


def bytes_of(bits):
    return list(int(bits[::-1], 2).to_bytes(len(bits) // 8, "little"))


def unpacked(row, sign):
    return list(struct.unpack(f"<{len(row) // struct.calcsize(sign)}{sign}", row))


def packed(numbers, sign):
    return list(struct.pack(f"<{len(numbers)}{sign}", *numbers))


def model_choose(how, a, b, c):
    truth = TRUTHS.get(how, 0)
    ways = [int(x + y + z, 2) for x, y, z in zip(bits_of(a), bits_of(b), bits_of(c))]
    return bytes_of("".join(str(truth >> way & 1) for way in ways))


def model_pick(k, w, places, a, b):
    if w not in SIGNS:
        return [0] * 64
    both = unpacked(a + b, SIGNS[w])
    spots = unpacked(places, SIGNS[w])
    wanted = bits_of(k.to_bytes(8, "little"), 64)
    return packed([both[spots[j] % len(both)] * int(wanted[j]) for j in range(len(spots))], SIGNS[w])


def model_fields(k, x, at):
    told = []
    for j in range(64):
        bits = bits_of(x)[j // 8 * 64:][:64] * 2
        told.append(bytes_of(bits[at[j] & 63:][:8])[0] if k & 2 ** j else 0)
    return told


def model_dots(k, held, base, a, b):
    starts = unpacked(base, "i")
    signed = unpacked(b, "b")
    for j in range(16):
        if k & 2 ** j:
            total = starts[j]
            for place in range(4 * j, 4 * j + 4):
                total += a[place] * signed[place]
            if held:
                total = sorted((INT_LOW, total, INT_HIGH))[1]
            starts[j] = (total + 2 ** 31) % 2 ** 32 - 2 ** 31
    return packed(starts, "i")


def model_tests(w, none, a, b):
    if w not in SIGNS:
        return [0]
    pairs = zip(unpacked(a, SIGNS[w]), unpacked(b, SIGNS[w]))
    asked = [(x & y != 0) != (none != 0) for x, y in pairs]
    return [sum(2 ** j for j, is_so in enumerate(asked) if is_so)]


def model_join(a, b, n):
    if n not in range(65):
        return [0]
    bits = bits_of(a.to_bytes(8, "little"), 64)[:n] + bits_of(b.to_bytes(8, "little"), 64)
    return [int(bits[:64][::-1], 2)]


def told_rows(numbers):
    """The rows of a call, behind its whole numbers."""
    rows = []
    while numbers:
        rows.append(bytes(numbers[1:1 + numbers[0]]).ljust(64, b"\0"))
        numbers = numbers[1 + numbers[0]:]
    return rows


def model_of_rows(call):
    if call[0] == 7:
        return model_choose(call[1], *told_rows(call[2:]))
    if call[0] == 8:
        return model_pick(call[1], call[2], *told_rows(call[3:]))
    if call[0] == 9:
        return model_fields(call[1], *told_rows(call[2:]))
    if call[0] == 10:
        return model_dots(call[1], call[2], *told_rows(call[3:]))
    if call[0] == 11:
        return model_tests(call[1], call[2], *told_rows(call[3:]))
    return model_join(call[1], call[2], call[3])


class Model:
    def __init__(self):
        self.votes = {}

    def vote(self, k, ballot, step, last):
        bits = int.from_bytes(bytes(ballot), "little")
        spread = sum(255 << 8 * byte for byte in range(64) if k >> byte & 1)
        marked = [question for question in range(512) if (bits & spread) >> question & 1]
        if any(self.votes.get(question, 0) == last for question in marked):
            return [2]
        for question in marked:
            self.votes[question] = self.votes.get(question, 0) + step
        return [0]

    def row(self, wanted):
        bits = sum(1 << question for question in range(512) if wanted(self.votes.get(question, 0)))
        return list(bits.to_bytes(64, "little"))

    def answer(self, call):
        if call[0] > 6:
            return model_of_rows(call)
        if call[0] == 0:
            self.votes = {}
            return [0]
        if call[0] == 1:
            return self.vote(call[1], call[3:], 1, 65535)
        if call[0] == 2:
            return self.vote(call[1], call[3:], -1, 0)
        if call[0] == 3:
            return self.row(lambda votes: votes >= call[1])
        if call[0] == 4:
            return self.row(lambda votes: votes in range(call[1], call[2] + 1))
        if call[0] == 5:
            return self.row(lambda votes: votes & 1)
        return [self.votes.get(call[1], 0) if call[1] in range(512) else -1]


def some_ballot(source):
    size = source.choice((0, 1, 2, 8, 63, 64, 64))
    spread = source.choice((1, 2, 16, 128, 255, 256))
    return [source.randrange(256) & source.choice((0, spread, 255)) & 255 for place in range(size)]


def some_k(source):
    return source.choice((0, 1, ALL, ALL, 1 << source.randrange(64), source.randrange(2**64)))


def some_call(source, counted):
    chosen = source.randrange(12)
    if chosen < 4:
        counted.append(count(some_k(source), some_ballot(source)))
        return counted[-1]
    if chosen == 4:
        return uncount(some_k(source), some_ballot(source))
    if chosen in (5, 6) and counted:
        # What was counted can mostly be taken back; a ballot of no relation is mostly refused.
        return [2] + source.choice(counted)[1:]
    if chosen < 9:
        return least(source.choice((INT_LOW, -1, 0, 1, 1, 2, 2, 3, 4, 65535, 65536, INT_HIGH)))
    if chosen == 9:
        ends = (INT_LOW, -1, 0, 1, 2, 3, 65535, INT_HIGH)
        return between(source.choice(ends), source.choice(ends))
    if chosen == 10:
        return source.choice((ODD, ODD, ODD, ODD, BEGIN))
    return one(source.choice((source.randrange(512), 0, 7, 8, 511, -1, 512, INT_LOW, INT_HIGH)))


def some_row_call(source):
    chosen = source.randrange(6)
    k = some_k(source)
    rows = [some_ballot(source) for place in range(3)]
    w = source.choice((1, 1, 2, 2, 4, 4, 8, 8, 0, 3, 16, -1, INT_LOW, INT_HIGH))
    switch = source.choice((0, 0, 0, 1, -1, 2, INT_LOW, INT_HIGH))
    if chosen == 0:
        return choose(source.choice((0, 1, 2, 3, 4, 4, -1, 5, INT_LOW, INT_HIGH)), *rows)
    if chosen == 1:
        return pick(k, w, *rows)
    if chosen == 2:
        return fields(k, *rows[:2])
    if chosen == 3:
        # Sums near to an end, so that some go past it.
        near_an_end = [0, 0, 0, 128] * 8 + [255, 255, 255, 127] * 8
        return dots(k, switch, source.choice((rows[0], near_an_end)), *rows[1:])
    if chosen == 4:
        return tested(w, switch, *rows[:2])
    n = source.choice((source.randrange(65), 0, 1, 63, 64, -1, 65, INT_LOW, INT_HIGH))
    return join(some_k(source), some_k(source), n)


def some_calls(source):
    counted = []
    calls = [BEGIN]
    for turn in range(source.choice((1, 10, 59))):
        calls.append(some_row_call(source) if source.randrange(2) else some_call(source, counted))
    return calls


class ModelTest(unittest.TestCase):
    def test_as_the_model_answers(self):
        for seed in range(250):
            calls = some_calls(random.Random(seed))
            model = Model()
            with self.subTest(seed=seed):
                self.assertEqual(run(*calls), [model.answer(call) for call in calls])
