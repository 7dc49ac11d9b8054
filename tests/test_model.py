"""Points 1 to 5 together: many lists of calls against a model that keeps a dict and works on one large number."""

import random
import unittest

from tests.helper import ALL, BEGIN, INT_HIGH, INT_LOW, ODD, between, count, least, one, run, uncount


class Model:
    def __init__(self):
        self.votes = {}

    def vote(self, k, ballot, step, last):
        bits = int.from_bytes(bytes(ballot), "little")
        spread = sum(255 << 8 * byte for byte in range(64) if k >> byte & 1)
        marked = [question for question in range(512) if (bits & spread) >> question & 1]
        if any(self.votes.get(question, 0) == last for question in marked):
            return [2]
        for question in marked:
            self.votes[question] = self.votes.get(question, 0) + step
        return [0]

    def row(self, wanted):
        bits = sum(1 << question for question in range(512) if wanted(self.votes.get(question, 0)))
        return list(bits.to_bytes(64, "little"))

    def answer(self, call):
        if call[0] == 0:
            self.votes = {}
            return [0]
        if call[0] == 1:
            return self.vote(call[1], call[3:], 1, 65535)
        if call[0] == 2:
            return self.vote(call[1], call[3:], -1, 0)
        if call[0] == 3:
            return self.row(lambda votes: votes >= call[1])
        if call[0] == 4:
            return self.row(lambda votes: votes in range(call[1], call[2] + 1))
        if call[0] == 5:
            return self.row(lambda votes: votes & 1)
        return [self.votes.get(call[1], 0) if call[1] in range(512) else -1]


def some_ballot(source):
    size = source.choice((0, 1, 2, 8, 63, 64, 64))
    spread = source.choice((1, 2, 16, 128, 255, 256))
    return [source.randrange(256) & source.choice((0, spread, 255)) & 255 for place in range(size)]


def some_k(source):
    return source.choice((0, 1, ALL, ALL, 1 << source.randrange(64), source.randrange(2**64)))


def some_call(source, counted):
    chosen = source.randrange(12)
    if chosen < 4:
        counted.append(count(some_k(source), some_ballot(source)))
        return counted[-1]
    if chosen == 4:
        return uncount(some_k(source), some_ballot(source))
    if chosen in (5, 6) and counted:
        # What was counted can mostly be taken back; a ballot of no relation is mostly refused.
        return [2] + source.choice(counted)[1:]
    if chosen < 9:
        return least(source.choice((INT_LOW, -1, 0, 1, 1, 2, 2, 3, 4, 65535, 65536, INT_HIGH)))
    if chosen == 9:
        ends = (INT_LOW, -1, 0, 1, 2, 3, 65535, INT_HIGH)
        return between(source.choice(ends), source.choice(ends))
    if chosen == 10:
        return source.choice((ODD, ODD, ODD, ODD, BEGIN))
    return one(source.choice((source.randrange(512), 0, 7, 8, 511, -1, 512, INT_LOW, INT_HIGH)))


class ModelTest(unittest.TestCase):
    def test_as_the_model_answers(self):
        for seed in range(150):
            source = random.Random(seed)
            counted = []
            calls = [BEGIN] + [some_call(source, counted) for turn in range(source.choice((1, 10, 59)))]
            model = Model()
            with self.subTest(seed=seed):
                self.assertEqual(run(*calls), [model.answer(call) for call in calls])
