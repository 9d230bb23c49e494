"""What the instructions work on: the workspace, the next place, the status and the memory of a run."""

ABOVE = 0x8000
ABOVE_WITH_SIGNS = 0x4000
EQUAL = 0x2000
CARRY = 0x1000
OVERFLOW = 0x0800
ODD = 0x0400
EXTENDED = 0x0200
STATUS_BITS = 0xFE0F


def signed(word):
    return word - 0x10000 if word & 0x8000 else word


def fits_with_signs(number):
    return -0x8000 <= number <= 0x7FFF


class Processor:
    """Memory is a list of words: registers, vectors and instructions are words, and only a few operands are bytes."""

    def __init__(self):
        self.workspace = 0
        self.next_place = 0
        self.status = 0
        self.words = []

    def use_workspace(self, place):
        self.workspace = place & 0xFFFE

    def go_to(self, place):
        self.next_place = place & 0xFFFE

    def use_status(self, word):
        self.status = word & STATUS_BITS

    def word_at(self, place):
        return self.words[(place & 0xFFFF) >> 1]

    def put_word(self, place, value):
        self.words[(place & 0xFFFF) >> 1] = value & 0xFFFF

    # A byte is read and put as the higher half of a word whose lower half is 0: signs, carries and what doesn't fit
    # are then the same as a word's, so that one way of reckoning serves both.

    def byte_at(self, place):
        word = self.word_at(place)
        return (word & 0x00FF) << 8 if place & 1 else word & 0xFF00

    def put_byte(self, place, value):
        word = self.word_at(place)
        if place & 1:
            self.put_word(place, (word & 0xFF00) | (value >> 8))
        else:
            self.put_word(place, (word & 0x00FF) | value)

    def value_at(self, place, size):
        return self.byte_at(place) if size == 1 else self.word_at(place)

    def put_value(self, place, value, size):
        if size == 1:
            self.put_byte(place, value)
        else:
            self.put_word(place, value)

    def register_place(self, r):
        return (self.workspace + 2 * r) & 0xFFFF

    def in_register(self, r):
        return self.word_at(self.workspace + 2 * r)

    def put_register(self, r, value):
        self.put_word(self.workspace + 2 * r, value)

    def passed_word(self):
        word = self.word_at(self.next_place)
        self.next_place = (self.next_place + 2) & 0xFFFF
        return word

    def operand_place(self, bits, size):
        """The place of the operand whose way and register are the six lowest bits; it isn't made even."""
        way = (bits >> 4) & 3
        r = bits & 15
        if way == 0:
            return self.register_place(r)
        if way == 2:
            place = self.passed_word()
            return place if r == 0 else (place + self.in_register(r)) & 0xFFFF
        place = self.in_register(r)
        if way == 3:
            self.put_register(r, place + size)
        return place

    def put_status_bit(self, bit, on):
        self.status = (self.status & (bit ^ 0xFFFF)) | (bit if on else 0)

    def compare(self, x, y):
        bits = 0
        if x == y:
            bits = EQUAL
        if x > y:
            bits = ABOVE
        if signed(x) > signed(y):
            bits = bits | ABOVE_WITH_SIGNS
        self.status = (self.status & 0x1FFF) | bits

    def compared(self, result):
        self.compare(result, 0)
        return result

    def sum_of(self, x, y):
        self.put_status_bit(CARRY, x + y > 0xFFFF)
        self.put_status_bit(OVERFLOW, not fits_with_signs(signed(x) + signed(y)))
        return self.compared((x + y) & 0xFFFF)

    def difference_of(self, x, y):
        self.put_status_bit(CARRY, y <= x)
        self.put_status_bit(OVERFLOW, not fits_with_signs(signed(x) - signed(y)))
        return self.compared((x - y) & 0xFFFF)

    def switch_by(self, vector):
        """Both words of the vector are read before any register is put, as the new registers may lie on it."""
        new_workspace = self.word_at(vector)
        new_place = self.word_at(vector + 2)
        old_workspace = self.workspace
        self.use_workspace(new_workspace)
        self.put_register(13, old_workspace)
        self.put_register(14, self.next_place)
        self.put_register(15, self.status)
        self.go_to(new_place)

    def switch_back(self):
        old_workspace = self.in_register(13)
        self.go_to(self.in_register(14))
        self.use_status(self.in_register(15))
        self.use_workspace(old_workspace)
