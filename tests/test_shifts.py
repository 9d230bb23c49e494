"""0800 to 0BFF: each shift by every count, from the instruction and from register 0."""

import unittest

from tests.helper import A, C, E, EXISTING, L, O, WORD_EDGES, compare_bits, run_words

VALUES = WORD_EDGES + (0x4000, 0xC000, 0xBFFF, 0x0080, 0x5555, 0xAAAA)


def bit_by_bit(kind, value, n):
    """The result, the last bit that went out, and whether the highest bit was ever another one."""
    first = value >> 15
    out, another = 0, False
    for step in range(n):
        if kind == 2:
            out = value >> 15
            value = value * 2 % 65536
        else:
            out = value & 1
            filled = (value >> 15, 0, None, out)[kind]
            value = value >> 1 | filled << 15
        another = another or value >> 15 != first
    return value, out, another


class Shifts(unittest.TestCase):
    def check_one(self, kind, value, n, word, regs, r):
        result, out, another = bit_by_bit(kind, value, n)
        put = L | A | E | C | (O if kind == 2 else 0)
        flags = compare_bits(result, 0, 16) | (C if out else 0) | (O if kind == 2 and another else 0)
        for before in (0, EXISTING):
            got = run_words([word], regs=regs, status=before)
            self.assertEqual((got.reg(r), got.done, got.p), (result, 1, 0x0102), (hex(word), hex(value), n))
            self.assertEqual(got.status, before & ~put | flags, (hex(word), hex(value), n))

    def check(self, kind):
        for value in VALUES:
            for n in range(1, 16):
                word = 0x0800 | kind << 8 | n << 4 | 3
                self.check_one(kind, value, n, word, {0: 0x0007, 3: value}, 3)
            for low in (0, 1, 8, 15):
                word = 0x0800 | kind << 8 | 3
                self.check_one(kind, value, low or 16, word, {0: 0xFFF0 | low, 3: value}, 3)

    def test_0800_right_with_its_sign(self):
        self.check(0)

    def test_0900_right(self):
        self.check(1)

    def test_0a00_left(self):
        self.check(2)

    def test_0b00_round(self):
        self.check(3)

    def test_register_0_by_itself(self):
        for kind in range(4):
            for value in (0x8003, 0x7FFF, 0x0010, 0xFFF0, 0x0000):
                self.check_one(kind, value, value & 15 or 16, 0x0800 | kind << 8, {0: value}, 0)
                self.check_one(kind, value, 5, 0x0850 | kind << 8, {0: value}, 0)

    def test_every_register(self):
        for r in range(1, 16):
            self.check_one(1, 0x8001, 1, 0x0910 | r, {r: 0x8001}, r)


class ByHand(unittest.TestCase):
    def check(self, word, value, result, status, count=0):
        got = run_words([word | 1], regs={0: count, 1: value})
        self.assertEqual((got.reg(1), got.status), (result, status), hex(word))

    def test_by_1(self):
        self.check(0x0810, 0x8001, 0xC000, L | C)
        self.check(0x0910, 0x8001, 0x4000, L | A | C)
        self.check(0x0A10, 0x4000, 0x8000, L | O)
        self.check(0x0A10, 0xC000, 0x8000, L | C)
        self.check(0x0B10, 0x0001, 0x8000, L | C)
        self.check(0x0B10, 0x0002, 0x0001, L | A)

    def test_by_15(self):
        self.check(0x08F0, 0x8000, 0xFFFF, L)
        self.check(0x08F0, 0xC000, 0xFFFF, L | C)
        self.check(0x09F0, 0xC000, 0x0001, L | A | C)
        self.check(0x0AF0, 0x0001, 0x8000, L | O)
        self.check(0x0AF0, 0xFFFF, 0x8000, L | C)
        self.check(0x0AF0, 0x0002, 0x0000, E | C | O)
        self.check(0x0BF0, 0x8000, 0x0001, L | A)

    def test_by_16(self):
        self.check(0x0800, 0x8000, 0xFFFF, L | C)
        self.check(0x0800, 0x7FFF, 0x0000, E)
        self.check(0x0900, 0x8000, 0x0000, E | C)
        self.check(0x0A00, 0x0001, 0x0000, E | C | O)
        self.check(0x0A00, 0xFFFF, 0x0000, E | C | O)
        self.check(0x0A00, 0x0000, 0x0000, E)
        self.check(0x0B00, 0x8001, 0x8001, L | C)
        self.check(0x0B00, 0x7FFF, 0x7FFF, L | A)

    def test_highest_bit_another_one_only_on_the_way(self):
        self.check(0x0A20, 0x5000, 0x4000, L | A | C | O)
        self.check(0x0A20, 0xA000, 0x8000, L | O)


if __name__ == "__main__":
    unittest.main()
