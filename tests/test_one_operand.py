"""0400 to 077F, but for number 2, which has a file of its own."""

import unittest

from tests.helper import A, C, E, EXISTING, L, O, WORD_EDGES, compare_bits, run_words


class Changes(unittest.TestCase):
    """Those that change s: by its value, what it becomes, which bits of the status are put, and what they are."""

    def check(self, number, expected):
        for value in WORD_EDGES + (0x00FF, 0xFF00, 0x8080):
            result, put, flags = expected(value)
            for before in (0, EXISTING):
                got = run_words([0x0400 | number << 6 | 1], regs={1: value}, status=before)
                self.assertEqual((got.done, got.why, got.p), (1, 0, 0x0102))
                self.assertEqual((got.reg(1), got.status), (result, before & ~put | flags), hex(value))

    def test_3_becomes_0(self):
        self.check(0x3, lambda value: (0, 0, 0))

    def test_c_all_bits(self):
        self.check(0xC, lambda value: (0xFFFF, 0, 0))

    def test_b_bytes_change_places(self):
        self.check(0xB, lambda value: (value % 256 * 256 + value // 256, 0, 0))

    def test_5_bits_turned(self):
        self.check(0x5, lambda value: (65535 - value, L | A | E, compare_bits(65535 - value, 0, 16)))

    def test_4_0_less_s(self):
        def expected(value):
            result = -value % 65536
            flags = compare_bits(result, 0, 16) | C * (value == 0) | O * (value == 0x8000)
            return result, L | A | E | C | O, flags
        self.check(0x4, expected)

    def test_6_7_more(self):
        for number, more in ((6, 1), (7, 2)):
            def expected(value):
                result = (value + more) % 65536
                overflow = value <= 0x7FFF < value + more
                flags = compare_bits(result, 0, 16) | C * (value + more > 65535) | O * overflow
                return result, L | A | E | C | O, flags
            self.check(number, expected)

    def test_8_9_less(self):
        for number, less in ((8, 1), (9, 2)):
            def expected(value):
                result = (value - less) % 65536
                overflow = value >= 0x8000 > value - less
                flags = compare_bits(result, 0, 16) | C * (value >= less) | O * overflow
                return result, L | A | E | C | O, flags
            self.check(number, expected)

    def test_d_its_size(self):
        def expected(value):
            result = 65536 - value if value >= 0x8000 else value
            return result, L | A | E | C | O, compare_bits(value, 0, 16) | O * (value == 0x8000)
        self.check(0xD, expected)


class ByHand(unittest.TestCase):
    def check(self, word, value, result, status):
        for before in (0, C | O):
            got = run_words([word | 1], regs={1: value}, status=before)
            self.assertEqual((got.reg(1), got.status), (result, status), hex(word))

    def test_4(self):
        self.check(0x0500, 0x0000, 0x0000, E | C)
        self.check(0x0500, 0x8000, 0x8000, L | O)
        self.check(0x0500, 0x0001, 0xFFFF, L)
        self.check(0x0500, 0xFFFF, 0x0001, L | A)

    def test_sums_and_differences(self):
        self.check(0x0580, 0xFFFF, 0x0000, E | C)
        self.check(0x0580, 0x7FFF, 0x8000, L | O)
        self.check(0x05C0, 0xFFFE, 0x0000, E | C)
        self.check(0x05C0, 0x7FFE, 0x8000, L | O)
        self.check(0x0600, 0x0000, 0xFFFF, L)
        self.check(0x0600, 0x0001, 0x0000, E | C)
        self.check(0x0600, 0x8000, 0x7FFF, L | A | C | O)
        self.check(0x0640, 0x0001, 0xFFFF, L)
        self.check(0x0640, 0x8001, 0x7FFF, L | A | C | O)

    def test_d(self):
        self.check(0x0740, 0x8000, 0x8000, L | O)
        self.check(0x0740, 0xFFFF, 0x0001, L)
        self.check(0x0740, 0x7FFF, 0x7FFF, L | A)
        self.check(0x0740, 0x0000, 0x0000, E)

    def test_5(self):
        got = run_words([0x0541], regs={1: 0xFFFF}, status=C | O)
        self.assertEqual((got.reg(1), got.status), (0x0000, E | C | O))


class Switched(unittest.TestCase):
    """Number 0."""

    def check(self, got, new_w, new_p, old_p, status):
        self.assertEqual((got.done, got.why, got.w, got.p, got.status), (1, 0, new_w, new_p, status))
        self.assertEqual((got.reg(13), got.reg(14), got.reg(15)), (0x0200, old_p, status))

    def test_ways(self):
        vector = {0x0300: 0x0340, 0x0302: 0x0380}
        self.check(run_words([0x0405], regs={5: 0x0340, 6: 0x0380}, status=0x9401), 0x0340, 0x0380, 0x0102, 0x9401)
        self.check(run_words([0x0415], regs={5: 0x0300}, places=vector), 0x0340, 0x0380, 0x0102, 0)
        self.check(run_words([0x0420, 0x0300], places=vector), 0x0340, 0x0380, 0x0104, 0)
        self.check(run_words([0x0425, 0x0200], regs={5: 0x0100}, places=vector), 0x0340, 0x0380, 0x0104, 0)
        got = run_words([0x0435], regs={5: 0x0300}, places=vector, status=EXISTING)
        self.check(got, 0x0340, 0x0380, 0x0102, EXISTING)
        self.assertEqual(got.reg(5, 0x0200), 0x0302)

    def test_made_even(self):
        got = run_words([0x0420, 0x0301], places={0x0300: 0x0341, 0x0302: 0x0381})
        self.check(got, 0x0340, 0x0380, 0x0104, 0)

    def test_register_11_stays(self):
        got = run_words([0x0405], regs={5: 0x0340, 6: 0x0380}, places={0x0356: 0x7777})
        self.assertEqual(got.reg(11), 0x7777)

    def test_vector_goes_round(self):
        # The vector's first word is at FFFE and is 0, the other one at 0.
        got = run_words([0x0420, 0xFFFE], places={0x0000: 0x0380})
        self.assertEqual((got.w, got.p), (0x0000, 0x0380))

    def test_new_registers_on_the_vector(self):
        # The new R13 is the vector's second word, which is read before.
        got = run_words([0x0420, 0x0300], places={0x0300: 0x02E8, 0x0302: 0x0380})
        self.assertEqual((got.w, got.p, got.word(0x0302)), (0x02E8, 0x0380, 0x0200))

    def test_into_its_own_workspace(self):
        got = run_words([0x0420, 0x0300], places={0x0300: 0x0200, 0x0302: 0x0380})
        self.check(got, 0x0200, 0x0380, 0x0104, 0)


class Branches(unittest.TestCase):
    """Number 1, and number A, which keeps P in register 11."""

    def test_1(self):
        self.assertEqual(run_words([0x0445], regs={5: 0x0300}).p, 0x020A)
        self.assertEqual(run_words([0x0455], regs={5: 0x0300}).p, 0x0300)
        self.assertEqual(run_words([0x0455], regs={5: 0x0301}).p, 0x0300)
        self.assertEqual(run_words([0x0460, 0x0303]).p, 0x0302)
        self.assertEqual(run_words([0x0465, 0x0303], regs={5: 0xFFFF}).p, 0x0302)
        got = run_words([0x0475], regs={5: 0x0301})
        self.assertEqual((got.p, got.reg(5)), (0x0300, 0x0303))

    def test_1_changes_nothing_else(self):
        got = run_words([0x0455], regs={5: 0x0300}, status=EXISTING)
        self.assertEqual((got.changes, got.status, got.w), ([], EXISTING, 0x0200))

    def test_a(self):
        for words, regs, p, back in (([0x0685], {5: 0x0300}, 0x020A, 0x0102), ([0x0695], {5: 0x0301}, 0x0300, 0x0102),
                                     ([0x06A0, 0x0303], {}, 0x0302, 0x0104),
                                     ([0x06A5, 0x0200], {5: 0x0100}, 0x0300, 0x0104)):
            got = run_words(words, regs=regs, status=EXISTING)
            self.assertEqual((got.p, got.reg(11), got.status), (p, back, EXISTING))
        got = run_words([0x06B5], regs={5: 0x0301})
        self.assertEqual((got.p, got.reg(11), got.reg(5)), (0x0300, 0x0102, 0x0303))

    def test_a_through_register_11(self):
        for word in (0x069B, 0x06BB):
            got = run_words([word], regs={11: 0x0300})
            self.assertEqual((got.p, got.reg(11)), (0x0300, 0x0102))
        got = run_words([0x06AB, 0x0010], regs={11: 0x0300})
        self.assertEqual((got.p, got.reg(11)), (0x0310, 0x0104))
        got = run_words([0x068B, 0x0000], regs={11: 0x0300})
        self.assertEqual((got.p, got.reg(11)), (0x0216, 0x0102))


class OtherWays(unittest.TestCase):
    def test_each_through_way_2_and_3(self):
        results = {3: 0, 4: 0xEDCC, 5: 0xEDCB, 6: 0x1235, 7: 0x1236, 8: 0x1233, 9: 0x1232, 11: 0x3412, 12: 0xFFFF,
                   13: 0x1234}
        for number, result in results.items():
            got = run_words([0x0420 | number << 6, 0x0301], places={0x0300: 0x1234})
            self.assertEqual((got.word(0x0300), got.p), (result, 0x0104), number)
            got = run_words([0x0435 | number << 6], regs={5: 0x0300}, places={0x0300: 0x1234})
            self.assertEqual((got.word(0x0300), got.reg(5)), (result, 0x0302), number)


if __name__ == "__main__":
    unittest.main()
