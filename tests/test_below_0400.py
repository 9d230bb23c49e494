"""What stands below 0400: the next word as an operand, W, the status, the mask, idling and the way back."""

import unittest

from tests.helper import A, C, E, EXISTING, L, O, WORD_EDGES, compare_bits, run_words


class NextWord(unittest.TestCase):
    def check(self, base, expected):
        for value in WORD_EDGES:
            for i in WORD_EDGES:
                result, put, flags = expected(value, i)
                for before in (0, EXISTING):
                    got = run_words([base | 3, i], regs={3: value}, status=before)
                    self.assertEqual((got.done, got.why, got.p), (1, 0, 0x0104))
                    self.assertEqual((got.reg(3), got.status), (result, before & ~put | flags), (hex(value), hex(i)))

    def test_020(self):
        self.check(0x0200, lambda value, i: (i, L | A | E, compare_bits(i, 0, 16)))

    def test_022(self):
        def expected(value, i):
            result = (value + i) % 65536
            overflow = value >> 15 == i >> 15 != result >> 15
            flags = compare_bits(result, 0, 16) | C * (value + i > 65535) | O * overflow
            return result, L | A | E | C | O, flags
        self.check(0x0220, expected)

    def test_024(self):
        self.check(0x0240, lambda value, i: (value & i, L | A | E, compare_bits(value & i, 0, 16)))

    def test_026(self):
        self.check(0x0260, lambda value, i: (value | i, L | A | E, compare_bits(value | i, 0, 16)))

    def test_028(self):
        self.check(0x0280, lambda value, i: (value, L | A | E, compare_bits(value, i, 16)))

    def test_every_register(self):
        for r in range(16):
            got = run_words([0x0200 | r, 0x8001])
            self.assertEqual((got.reg(r), got.changes), (0x8001, [(0x0200 + 2 * r, 0x80), (0x0201 + 2 * r, 0x01)]))

    def test_by_hand(self):
        for words, value, result, status in (([0x0221, 0x0001], 0x7FFF, 0x8000, L | O),
                                             ([0x0221, 0xFFFF], 0x0001, 0x0000, E | C),
                                             ([0x0281, 0x7FFF], 0x8000, 0x8000, L),
                                             ([0x0281, 0x8000], 0x7FFF, 0x7FFF, A),
                                             ([0x0241, 0x0FF0], 0x1234, 0x0230, L | A),
                                             ([0x0261, 0x8000], 0x1234, 0x9234, L)):
            got = run_words(words, regs={1: value})
            self.assertEqual((got.reg(1), got.status), (result, status))

    def test_next_word_is_the_register(self):
        # R1 of the workspace 0100 is the word behind the instruction.
        got = run_words([0x0221, 0x1234], w=0x0100)
        self.assertEqual((got.word(0x0102), got.p), (0x2468, 0x0104))


class Stored(unittest.TestCase):
    def test_02a_the_workspace(self):
        for r in (0, 7, 15):
            got = run_words([0x02A0 | r, 0x1000], status=EXISTING)
            self.assertEqual((got.reg(r), got.p, got.status), (0x0200, 0x0102, EXISTING))

    def test_02c_the_status(self):
        for r in (0, 7, 15):
            for before in (0, 0x8405, EXISTING):
                got = run_words([0x02C0 | r, 0x1000], regs={r: 0x5555}, status=before)
                self.assertEqual((got.reg(r), got.p, got.status), (before, 0x0102, before))


class Put(unittest.TestCase):
    def test_02e0_the_workspace(self):
        for i, w in ((0x0300, 0x0300), (0x0301, 0x0300), (0xFFFF, 0xFFFE), (0, 0)):
            got = run_words([0x02E0, i], status=EXISTING)
            self.assertEqual((got.w, got.p, got.status, got.changes), (w, 0x0104, EXISTING, []))

    def test_0300_the_mask(self):
        for i in (0, 1, 0x000F, 0xFFF0, 0xFFFF, 0x1238):
            for before in (0, EXISTING, 0x840A):
                got = run_words([0x0300, i], status=before)
                self.assertEqual((got.status, got.p, got.changes), (before & 0xFFF0 | i & 15, 0x0104, []))


class Idle(unittest.TestCase):
    def test_0340(self):
        got = run_words([0x0340], steps=5, status=EXISTING)
        self.assertEqual((got.done, got.why, got.p, got.status, got.changes), (1, 3, 0x0102, EXISTING, []))


class Back(unittest.TestCase):
    def test_0380(self):
        got = run_words([0x0380], regs={13: 0x0300, 14: 0x0320, 15: 0x8401}, places={0x031A: 0x5555, 0x031C: 0x5555,
                                                                                    0x031E: 0x5555}, status=0x4002)
        self.assertEqual((got.w, got.p, got.status, got.changes), (0x0300, 0x0320, 0x8401, []))
        self.assertEqual((got.done, got.why), (1, 0))

    def test_0380_made_even_and_of_the_bits_that_there_are(self):
        got = run_words([0x0380], regs={13: 0x0301, 14: 0x0321, 15: 0xFFFF})
        self.assertEqual((got.w, got.p, got.status), (0x0300, 0x0320, EXISTING))
        got = run_words([0x0380], regs={13: 0xFFFF, 14: 0xFFFF, 15: 0x01F0}, status=EXISTING)
        self.assertEqual((got.w, got.p, got.status), (0xFFFE, 0xFFFE, 0))

    def test_there_and_back(self):
        # BLWP, with the word behind it; there RTWP.
        got = run_words([0x0420, 0x0300], places={0x0300: 0x0340, 0x0302: 0x0380, 0x0380: 0x0380}, steps=2,
                        status=0x9405)
        self.assertEqual((got.w, got.p, got.status, got.done), (0x0200, 0x0104, 0x9405, 2))

    def test_there_by_number_and_back(self):
        got = run_words([0x2C45], places={0x44: 0x0340, 0x46: 0x0380, 0x0380: 0x0380}, steps=2, status=0x9405)
        self.assertEqual((got.w, got.p, got.status, got.done), (0x0200, 0x0102, 0x9405, 2))


if __name__ == "__main__":
    unittest.main()
