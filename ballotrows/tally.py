"""The calls on one tally of 512 questions, and on rows, read from one list of whole numbers, answered in another."""

QUESTIONS = 512
ROW_BYTES = 64
MOST_COUNTED = 65535

LANE_WIDTHS = (1, 2, 4, 8)
WORD_BITS = 64
WORD_BYTES = 8
WORD_MASK = 18446744073709551615
DOT_BITS = 32
DOT_BYTES = 4
LEAST_HELD = -2147483648
MOST_HELD = 2147483647

DONE = 0
REFUSED = 2
NO_SUCH_QUESTION = -1

BEGIN = 0
COUNT = 1
UNCOUNT = 2
LEAST = 3
BETWEEN = 4
ODD = 5
ONE = 6
CHOOSE = 7
PICK = 8
FIELDS = 9
DOTS = 10
TESTS = 11
JOIN = 12

MAJORITY = 0
BY_THE_FIRST = 1
ODD_MANY = 2
JUST_ONE = 3
ALL_THE_SAME = 4

# By a call's number: how many whole numbers it has, then how many rows. A number that is no call's is not here,
# so that it fails where it is read and isn't taken for another call.
SHAPES = {
    0: (0, 0), 1: (1, 1), 2: (1, 1), 3: (1, 0), 4: (2, 0), 5: (0, 0), 6: (1, 0),
    7: (1, 3), 8: (2, 3), 9: (1, 2), 10: (2, 3), 11: (2, 2), 12: (3, 0),
}


def bit_of(number, place):
    """The bit of a whole number at a place, 0 the lowest."""
    return (number >> place) & 1


def row_of(bits):
    """The row whose bits these are, bit 0 first."""
    row = [0] * ROW_BYTES
    for place, bit in enumerate(bits):
        row[place // 8] += bit << (place % 8)
    return row


def number_of(part):
    """The whole number that these bytes are, the lowest first."""
    number = 0
    for place, byte in enumerate(part):
        number += byte << (8 * place)
    return number


def bytes_of(number, size):
    """The lowest bytes of a whole number, so many, the lowest first; below 0 as two's complement has them."""
    return [(number >> (8 * place)) & 255 for place in range(size)]


def lanes_of(row, w):
    """The lanes of w bytes of a row as whole numbers from 0 on."""
    return [number_of(row[start:start + w]) for start in range(0, ROW_BYTES, w)]


def row_of_lanes(lanes, w):
    """The row whose lanes of w bytes these are; what a lane has no room for is left out."""
    row = []
    for lane in lanes:
        row.extend(bytes_of(lane, w))
    return row


def signed(number, bits):
    """What a number of so many bits is with its sign, in two's complement."""
    if bit_of(number, bits - 1) == 1:
        return number - (1 << bits)
    return number


def is_marked(k, ballot, question):
    """Whether the question's bit of the ballot is 1 and in a byte in k."""
    byte = question // 8
    return bit_of(k, byte) == 1 and bit_of(ballot[byte], question % 8) == 1


def marked_questions(k, ballot):
    """The questions that a ballot counts for."""
    return [question for question in range(QUESTIONS) if is_marked(k, ballot, question)]


class Tally:
    """A count from 0 to 65535 for each question."""

    def __init__(self):
        self.counts = [0] * QUESTIONS

    def begin(self):
        self.counts = [0] * QUESTIONS
        return DONE

    def count(self, k, ballot):
        return self.step_all(marked_questions(k, ballot), 1, MOST_COUNTED)

    def uncount(self, k, ballot):
        return self.step_all(marked_questions(k, ballot), -1, 0)

    def step_all(self, questions, step, last):
        """Steps the count of each question, or of none if one of them is at the last count it can have."""
        # All are looked at before the first is stepped, so that a refusal leaves no part of the ballot counted.
        for question in questions:
            if self.counts[question] == last:
                return REFUSED
        for question in questions:
            self.counts[question] += step
        return DONE

    def least(self, t):
        return row_of([1 if votes >= t else 0 for votes in self.counts])

    def between(self, lo, hi):
        return row_of([1 if lo <= votes and votes <= hi else 0 for votes in self.counts])

    def odd(self):
        return row_of([votes % 2 for votes in self.counts])

    def one(self, question):
        # Python would take a number below 0 as counted from the end.
        if question < 0 or question >= QUESTIONS:
            return NO_SUCH_QUESTION
        return self.counts[question]


def chosen(how, a, b, c):
    """A byte whose bits are told by the three at their place."""
    some = a | b | c
    every = a & b & c
    odd_many = a ^ b ^ c
    if how == MAJORITY:
        return (a & b) | (a & c) | (b & c)
    if how == BY_THE_FIRST:
        return (a & b) | ((255 - a) & c)
    if how == ODD_MANY:
        return odd_many
    if how == JUST_ONE:
        return odd_many - every
    if how == ALL_THE_SAME:
        return every + (255 - some)
    return 0


def choose(how, a, b, c):
    return [chosen(how, a[place], b[place], c[place]) for place in range(ROW_BYTES)]


def pick(k, w, places, a, b):
    if w not in LANE_WIDTHS:
        return [0] * ROW_BYTES
    lanes = lanes_of(a, w) + lanes_of(b, w)
    picked = []
    for j, place in enumerate(lanes_of(places, w)):
        picked.append(lanes[place % len(lanes)] if bit_of(k, j) == 1 else 0)
    return row_of_lanes(picked, w)


def field_of(word, s):
    """Eight bits of a word of 64, from bit s on; past bit 63 it goes on with bit 0."""
    return ((word >> s) | (word << (WORD_BITS - s))) & 255


def fields(k, x, at):
    words = lanes_of(x, WORD_BYTES)
    cut = []
    for j, start in enumerate(at):
        cut.append(field_of(words[j // WORD_BYTES], start % WORD_BITS) if bit_of(k, j) == 1 else 0)
    return cut


def products_of(left, right):
    """The products of bytes without signs and bytes with signs."""
    return [x * signed(y, 8) for x, y in zip(left, right)]


def dot(held, start, left, right):
    """What the products of two lanes' bytes bring the number of a third one to."""
    total = signed(start, DOT_BITS) + sum(products_of(left, right))
    # It is held once all is added: on the way it may go past the end and come back.
    if held != 0:
        return max(LEAST_HELD, min(MOST_HELD, total))
    return total


def dots(k, held, base, a, b):
    lanes = []
    for j, start in enumerate(lanes_of(base, DOT_BYTES)):
        here = j * DOT_BYTES
        end = here + DOT_BYTES
        lanes.append(dot(held, start, a[here:end], b[here:end]) if bit_of(k, j) == 1 else start)
    # A total that isn't held may be past 32 bits: its lowest four bytes are what it is modulo 2^32.
    return row_of_lanes(lanes, DOT_BYTES)


def common_mask(w, none, a, b):
    """The mask of the lanes in which two rows have some 1 in common, or, if none isn't 0, haven't."""
    if w not in LANE_WIDTHS:
        return 0
    common = [x & y for x, y in zip(a, b)]
    wants_none = none != 0
    mask = 0
    for j, lane in enumerate(lanes_of(common, w)):
        if (lane == 0) == wants_none:
            mask += 1 << j
    return mask


def join_bits(a, b, n):
    if n < 0 or n > WORD_BITS:
        return 0
    low = a & ((1 << n) - 1)
    return (low | (b << n)) & WORD_MASK


class Reader:
    """Goes through the list of calls by a place in it, since the list itself must stay as it is."""

    def __init__(self, calls):
        self.calls = calls
        self.place = 0

    def is_done(self):
        return self.place >= len(self.calls)

    def take_numbers(self, size):
        start = self.place
        self.place = start + size
        return self.calls[start:self.place]

    def take_number(self):
        return self.take_numbers(1)[0]

    def take_row(self):
        """The next row, with the bytes of 0 that were left out at its end."""
        size = self.take_number()
        return self.take_numbers(size) + [0] * (ROW_BYTES - size)


def answer_row_call(call, numbers, rows):
    """The numbers that a call answers that is about rows alone, or masks, and not about the tally."""
    if call == CHOOSE:
        return choose(numbers[0], rows[0], rows[1], rows[2])
    if call == PICK:
        return pick(numbers[0], numbers[1], rows[0], rows[1], rows[2])
    if call == FIELDS:
        return fields(numbers[0], rows[0], rows[1])
    if call == DOTS:
        return dots(numbers[0], numbers[1], rows[0], rows[1], rows[2])
    if call == TESTS:
        return [common_mask(numbers[0], numbers[1], rows[0], rows[1])]
    return [join_bits(numbers[0], numbers[1], numbers[2])]


def answer_tally_call(tally, call, numbers, rows):
    """The numbers that a call on the tally answers."""
    if call == BEGIN:
        return [tally.begin()]
    if call == COUNT:
        return [tally.count(numbers[0], rows[0])]
    if call == UNCOUNT:
        return [tally.uncount(numbers[0], rows[0])]
    if call == LEAST:
        return tally.least(numbers[0])
    if call == BETWEEN:
        return tally.between(numbers[0], numbers[1])
    if call == ODD:
        return tally.odd()
    return [tally.one(numbers[0])]


def answer_call(tally, call, numbers, rows):
    if call >= CHOOSE:
        return answer_row_call(call, numbers, rows)
    return answer_tally_call(tally, call, numbers, rows)


def next_answer(tally, reader):
    """Takes one call from the reader: the numbers that it answers."""
    call = reader.take_number()
    shape = SHAPES[call]
    numbers = reader.take_numbers(shape[0])
    rows = []
    while len(rows) < shape[1]:
        rows.append(reader.take_row())
    return answer_call(tally, call, numbers, rows)


def answers(calls):
    """For each call on one new tally, in order: how many numbers it answers, then these."""
    tally = Tally()
    reader = Reader(calls)
    told = []
    while not reader.is_done():
        numbers = next_answer(tally, reader)
        told.append(len(numbers))
        told.extend(numbers)
    return told
