"""One tally of 512 questions: its calls are read from one list of whole numbers and answered in another."""

QUESTIONS = 512
ROW_BYTES = 64
MOST_COUNTED = 65535

DONE = 0
REFUSED = 2
NO_SUCH_QUESTION = -1

BEGIN = 0
COUNT = 1
UNCOUNT = 2
LEAST = 3
BETWEEN = 4
ODD = 5
ONE = 6

# By a call's number: how many whole numbers it has, then how many rows. A number that is no call's is not here,
# so that it fails where it is read and isn't taken for another call.
SHAPES = {0: (0, 0), 1: (1, 1), 2: (1, 1), 3: (1, 0), 4: (2, 0), 5: (0, 0), 6: (1, 0)}


def bit_of(number, place):
    """The bit of a whole number at a place, 0 the lowest."""
    return (number >> place) & 1


def row_of(bits):
    """The row whose bits these are, bit 0 first."""
    row = [0] * ROW_BYTES
    for place, bit in enumerate(bits):
        row[place // 8] += bit << (place % 8)
    return row


def is_marked(k, ballot, question):
    """Whether the question's bit of the ballot is 1 and in a byte in k."""
    byte = question // 8
    return bit_of(k, byte) == 1 and bit_of(ballot[byte], question % 8) == 1


def marked_questions(k, ballot):
    """The questions that a ballot counts for."""
    return [question for question in range(QUESTIONS) if is_marked(k, ballot, question)]


class Tally:
    """A count from 0 to 65535 for each question."""

    def __init__(self):
        self.counts = [0] * QUESTIONS

    def begin(self):
        self.counts = [0] * QUESTIONS
        return DONE

    def count(self, k, ballot):
        return self.step_all(marked_questions(k, ballot), 1, MOST_COUNTED)

    def uncount(self, k, ballot):
        return self.step_all(marked_questions(k, ballot), -1, 0)

    def step_all(self, questions, step, last):
        """Steps the count of each question, or of none if one of them is at the last count it can have."""
        # All are looked at before the first is stepped, so that a refusal leaves no part of the ballot counted.
        for question in questions:
            if self.counts[question] == last:
                return REFUSED
        for question in questions:
            self.counts[question] += step
        return DONE

    def least(self, t):
        return row_of([1 if votes >= t else 0 for votes in self.counts])

    def between(self, lo, hi):
        return row_of([1 if lo <= votes and votes <= hi else 0 for votes in self.counts])

    def odd(self):
        return row_of([votes % 2 for votes in self.counts])

    def one(self, question):
        # Python would take a number below 0 as counted from the end.
        if question < 0 or question >= QUESTIONS:
            return NO_SUCH_QUESTION
        return self.counts[question]


class Reader:
    """Goes through the list of calls by a place in it, since the list itself must stay as it is."""

    def __init__(self, calls):
        self.calls = calls
        self.place = 0

    def is_done(self):
        return self.place >= len(self.calls)

    def take_numbers(self, size):
        start = self.place
        self.place = start + size
        return self.calls[start:self.place]

    def take_number(self):
        return self.take_numbers(1)[0]

    def take_row(self):
        """The next row, with the bytes of 0 that were left out at its end."""
        size = self.take_number()
        return self.take_numbers(size) + [0] * (ROW_BYTES - size)


def answer_call(tally, call, numbers, rows):
    """The numbers that one call answers."""
    if call == BEGIN:
        return [tally.begin()]
    if call == COUNT:
        return [tally.count(numbers[0], rows[0])]
    if call == UNCOUNT:
        return [tally.uncount(numbers[0], rows[0])]
    if call == LEAST:
        return tally.least(numbers[0])
    if call == BETWEEN:
        return tally.between(numbers[0], numbers[1])
    if call == ODD:
        return tally.odd()
    return [tally.one(numbers[0])]


def next_answer(tally, reader):
    """Takes one call from the reader: the numbers that it answers."""
    call = reader.take_number()
    shape = SHAPES[call]
    numbers = reader.take_numbers(shape[0])
    rows = []
    while len(rows) < shape[1]:
        rows.append(reader.take_row())
    return answer_call(tally, call, numbers, rows)


def answers(calls):
    """For each call on one new tally, in order: how many numbers it answers, then these."""
    tally = Tally()
    reader = Reader(calls)
    told = []
    while not reader.is_done():
        numbers = next_answer(tally, reader)
        told.append(len(numbers))
        told.extend(numbers)
    return told
