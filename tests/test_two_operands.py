"""4000 on: each of the six, of words and of bytes, with results at the edges."""

import unittest

from tests.helper import A, BYTE_EDGES, C, E, EXISTING, L, O, ODD, WORD_EDGES, compare_bits, run_words

CLEAR, SUBTRACT, COMPARE, ADD, MOVE, OR = 2, 3, 4, 5, 6, 7


def with_sign(value, bits):
    return value - (1 << bits) if value >> (bits - 1) else value


def fits(number, bits):
    return -(1 << (bits - 1)) <= number < 1 << (bits - 1)


def expected(number, s, d, bits):
    """What d becomes, which bits of the status are put, and what they are."""
    full = (1 << bits) - 1
    put, flags = L | A | E, 0
    if number == CLEAR:
        result = d & ~s
    elif number == OR:
        result = d | s
    elif number == MOVE:
        result = s
    elif number == ADD:
        result = (d + s) & full
        put |= C | O
        flags |= C if d + s > full else 0
        flags |= 0 if fits(with_sign(d, bits) + with_sign(s, bits), bits) else O
    elif number == SUBTRACT:
        result = (d - s) & full
        put |= C | O
        flags |= C if d >= s else 0
        flags |= 0 if fits(with_sign(d, bits) - with_sign(s, bits), bits) else O
    else:
        result = d
    flags |= compare_bits(s, d, bits) if number == COMPARE else compare_bits(result, 0, bits)
    if bits == 8:
        put |= ODD
        flags |= ODD if bin(s if number == COMPARE else result).count("1") % 2 else 0
    return result, put, flags


class EachOfTheSix:
    """The tests of both classes below, which say how one of the six is checked."""

    def test_2_bits_cleared(self):
        self.check(CLEAR)

    def test_3_difference(self):
        self.check(SUBTRACT)

    def test_4_compared(self):
        self.check(COMPARE)

    def test_5_sum(self):
        self.check(ADD)

    def test_6_moved(self):
        self.check(MOVE)

    def test_7_or(self):
        self.check(OR)


class Words(EachOfTheSix, unittest.TestCase):
    def check(self, number):
        for s in WORD_EDGES:
            for d in WORD_EDGES:
                result, put, flags = expected(number, s, d, 16)
                for before in (0, EXISTING):
                    got = run_words([number << 13 | 2 << 6 | 1], regs={1: s, 2: d}, status=before)
                    self.assertEqual((got.done, got.why, got.p), (1, 0, 0x0102))
                    self.assertEqual((got.reg(1), got.reg(2)), (s, result), (hex(s), hex(d)))
                    self.assertEqual(got.status, before & ~put | flags, (hex(s), hex(d)))


class Bytes(EachOfTheSix, unittest.TestCase):
    """Each half of both words, the other half of d left as it is."""

    def check(self, number):
        for s in BYTE_EDGES:
            for d in BYTE_EDGES:
                result, put, flags = expected(number, s, d, 8)
                for before, s_place, d_place in ((0, 0x0300, 0x0310), (EXISTING, 0x0301, 0x0311),
                                                 (0, 0x0300, 0x0311), (EXISTING, 0x0301, 0x0310)):
                    places = {0x0300: s << 8 | 0x5A if s_place == 0x0300 else 0x5A00 | s,
                              0x0310: d << 8 | 0x69 if d_place == 0x0310 else 0x6900 | d}
                    got = run_words([number << 13 | 0x1000 | 0x0400 | 2 << 6 | 0x10 | 1],
                                    regs={1: s_place, 2: d_place}, places=places, status=before)
                    self.assertEqual(got.changes, [(d_place, result)] if result != d else [], (hex(s), hex(d)))
                    self.assertEqual(got.status, before & ~put | flags, (hex(s), hex(d)))

    def test_higher_byte_of_registers(self):
        for number in (CLEAR, SUBTRACT, COMPARE, ADD, MOVE, OR):
            result, put, flags = expected(number, 0xC5, 0x7E, 8)
            got = run_words([number << 13 | 0x1000 | 2 << 6 | 1], regs={1: 0xC5FF, 2: 0x7E12}, status=EXISTING)
            self.assertEqual((got.reg(1), got.reg(2)), (0xC5FF, result << 8 | 0x12), number)
            self.assertEqual(got.status, EXISTING & ~put | flags, number)


class ByHand(unittest.TestCase):
    """A few rows written out, that don't lean on the reckoning above."""

    def check(self, word, s, d, result, status):
        got = run_words([word | 2 << 6 | 1], regs={1: s, 2: d})
        self.assertEqual((got.reg(2), got.status), (result, status), hex(word))

    def test_sums(self):
        self.check(0xA000, 0x0001, 0x7FFF, 0x8000, L | O)
        self.check(0xA000, 0x8000, 0x8000, 0x0000, E | C | O)
        self.check(0xA000, 0xFFFF, 0x0001, 0x0000, E | C)
        self.check(0xA000, 0x0001, 0x0001, 0x0002, L | A)
        self.check(0xB000, 0x0100, 0x7FAA, 0x80AA, L | O | ODD)
        self.check(0xB000, 0xFFAA, 0x01BB, 0x00BB, E | C)

    def test_differences(self):
        self.check(0x6000, 0x0000, 0x0000, 0x0000, E | C)
        self.check(0x6000, 0x0001, 0x0000, 0xFFFF, L)
        self.check(0x6000, 0x0001, 0x8000, 0x7FFF, L | A | C | O)
        self.check(0x6000, 0x8000, 0x7FFF, 0xFFFF, L | O)
        self.check(0x6000, 0x8000, 0x8000, 0x0000, E | C)
        self.check(0x7000, 0x0100, 0x80CC, 0x7FCC, L | A | C | O | ODD)

    def test_compared(self):
        self.check(0x8000, 0x8000, 0x7FFF, 0x7FFF, L)
        self.check(0x8000, 0x7FFF, 0x8000, 0x8000, A)
        self.check(0x8000, 0xFFFF, 0xFFFF, 0xFFFF, E)
        self.check(0x9000, 0x8000, 0x7FFF, 0x7FFF, L | ODD)
        self.check(0x9000, 0x0300, 0x80FF, 0x80FF, A)

    def test_bits(self):
        self.check(0x4000, 0x0FF0, 0xFFFF, 0xF00F, L)
        self.check(0x4000, 0xFFFF, 0xFFFF, 0x0000, E)
        self.check(0xE000, 0x0FF0, 0x1001, 0x1FF1, L | A)
        self.check(0x5000, 0x0FFF, 0xFF55, 0xF055, L)
        self.check(0xF000, 0x0700, 0x0055, 0x0755, L | A | ODD)

    def test_moves(self):
        self.check(0xC000, 0x0000, 0x1234, 0x0000, E)
        self.check(0xC000, 0x8000, 0x1234, 0x8000, L)
        self.check(0xD000, 0x01FF, 0x1234, 0x0134, L | A | ODD)
        self.check(0xD000, 0x00FF, 0x1234, 0x0034, E)


if __name__ == "__main__":
    unittest.main()
