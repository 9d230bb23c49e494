"""2000 to 3FFF: the bits that are asked for, exclusive-or, the switch by a vector, product and division."""

import unittest

from tests.helper import A, E, EXISTING, L, O, WORD_EDGES, X, compare_bits, run_words


def with_register(base, r, way, s):
    return base | r << 6 | way << 4 | s


class Bits(unittest.TestCase):
    def check(self, base, holds):
        for s in WORD_EDGES:
            for value in WORD_EDGES + (s, s ^ 0xFFFF):
                for before in (0, EXISTING):
                    got = run_words([with_register(base, 2, 0, 1)], regs={1: s, 2: value}, status=before)
                    self.assertEqual((got.changes, got.p), ([], 0x0102))
                    self.assertEqual(got.status, before & ~E | (E if holds(s, value) else 0), (hex(s), hex(value)))

    def test_2000_has_all_of_them(self):
        self.check(0x2000, lambda s, value: (s | value) == value)

    def test_2400_has_none_of_them(self):
        self.check(0x2400, lambda s, value: (s & value) == 0)

    def test_way_3_moves_the_register_on_first(self):
        got = run_words([with_register(0x2000, 1, 3, 1)], regs={1: 0x0300}, places={0x0300: 0x0002})
        self.assertEqual((got.status, got.reg(1)), (E, 0x0302))
        got = run_words([with_register(0x2400, 1, 3, 1)], regs={1: 0x0300}, places={0x0300: 0x0002}, status=E)
        self.assertEqual((got.status, got.reg(1)), (0, 0x0302))


class ExclusiveOr(unittest.TestCase):
    def test_2800(self):
        for s in WORD_EDGES:
            for value in WORD_EDGES:
                for before in (0, EXISTING):
                    got = run_words([with_register(0x2800, 2, 0, 1)], regs={1: s, 2: value}, status=before)
                    self.assertEqual((got.reg(1), got.reg(2)), (s, s ^ value))
                    self.assertEqual(got.status, before & 0x1FFF | compare_bits(s ^ value, 0, 16))

    def test_with_itself(self):
        got = run_words([with_register(0x2800, 1, 0, 1)], regs={1: 0x1234})
        self.assertEqual((got.reg(1), got.status), (0, E))

    def test_way_3_of_the_same_register(self):
        got = run_words([with_register(0x2800, 1, 3, 1)], regs={1: 0x0300}, places={0x0300: 0x1002})
        self.assertEqual((got.reg(1), got.status), (0x1300, L | A))


class SwitchByNumber(unittest.TestCase):
    def check(self, got, new_w, new_p, old_p, before, place):
        self.assertEqual((got.done, got.why), (1, 0))
        self.assertEqual((got.w, got.p, got.status), (new_w, new_p, before | X))
        self.assertEqual((got.reg(13), got.reg(14), got.reg(15), got.reg(11)), (0x0200, old_p, before, place))

    def test_each_number(self):
        for r in range(16):
            got = run_words([with_register(0x2C00, r, 0, 5)], places={0x40 + 4 * r: 0x0340, 0x42 + 4 * r: 0x0380},
                            status=0x9405)
            self.check(got, 0x0340, 0x0380, 0x0102, 0x9405, 0x020A)

    def test_vector_is_made_even(self):
        got = run_words([with_register(0x2C00, 1, 0, 5)], places={0x44: 0x0341, 0x46: 0x0381})
        self.check(got, 0x0340, 0x0380, 0x0102, 0, 0x020A)

    def test_places_as_the_ways_tell_them(self):
        vector = {0x44: 0x0340, 0x46: 0x0380}
        self.check(run_words([with_register(0x2C00, 1, 1, 5)], regs={5: 0x0301}, places=vector),
                   0x0340, 0x0380, 0x0102, 0, 0x0301)
        self.check(run_words([with_register(0x2C00, 1, 2, 0), 0x0303], places=vector),
                   0x0340, 0x0380, 0x0104, 0, 0x0303)
        self.check(run_words([with_register(0x2C00, 1, 2, 5), 0x0303], regs={5: 0xFFFE}, places=vector),
                   0x0340, 0x0380, 0x0104, 0, 0x0301)
        got = run_words([with_register(0x2C00, 1, 3, 5)], regs={5: 0x0305}, places=vector)
        self.check(got, 0x0340, 0x0380, 0x0102, 0, 0x0305)
        self.assertEqual(got.reg(5, 0x0200), 0x0307)

    def test_the_status_kept_has_x_as_it_was(self):
        for before in (0, X, EXISTING):
            got = run_words([with_register(0x2C00, 1, 0, 5)], places={0x44: 0x0340, 0x46: 0x0380}, status=before)
            self.assertEqual((got.reg(15), got.status), (before, before | X))

    def test_vector_that_way_3_moves_on(self):
        # R2 is the vector's first word: it is 2 more when the new workspace is read.
        got = run_words([with_register(0x2C00, 1, 3, 2)], places={0x44: 0x0340, 0x46: 0x0380}, w=0x0040)
        self.assertEqual((got.w, got.p, got.reg(11), got.reg(13)), (0x0342, 0x0380, 0x0340, 0x0040))

    def test_new_registers_on_the_vector(self):
        # The new R13 lies on the vector's second word, which is read before.
        got = run_words([with_register(0x2C00, 1, 0, 5)], places={0x44: 0x002C, 0x46: 0x0380})
        self.assertEqual((got.w, got.p, got.word(0x46), got.reg(13)), (0x002C, 0x0380, 0x0200, 0x0200))

    def test_new_registers_go_round(self):
        got = run_words([with_register(0x2C00, 1, 0, 5)], places={0x44: 0xFFE4, 0x46: 0x0380}, status=0x8001)
        self.assertEqual((got.word(0xFFFA), got.word(0xFFFE), got.word(0x0000), got.word(0x0002)),
                         (0x020A, 0x0200, 0x0102, 0x8001))


class Product(unittest.TestCase):
    def test_3800(self):
        for s in WORD_EDGES:
            for value in WORD_EDGES:
                for before in (0, EXISTING):
                    got = run_words([with_register(0x3800, 2, 0, 1)], regs={1: s, 2: value, 3: 0xDEAD}, status=before)
                    self.assertEqual((got.reg(2) << 16 | got.reg(3), got.reg(1)), (s * value, s))
                    self.assertEqual((got.status, got.p), (before, 0x0102))

    def test_by_hand(self):
        got = run_words([with_register(0x3800, 2, 0, 1)], regs={1: 0xFFFF, 2: 0xFFFF})
        self.assertEqual((got.reg(2), got.reg(3)), (0xFFFE, 0x0001))

    def test_register_15_and_the_word_behind_it(self):
        got = run_words([with_register(0x3800, 15, 0, 1)], regs={1: 0x1234, 15: 0x0100})
        self.assertEqual((got.word(0x021E), got.word(0x0220)), (0x0012, 0x3400))

    def test_word_behind_goes_round(self):
        got = run_words([0x0207, 0x1234, with_register(0x3800, 7, 0, 8)], w=0xFFF0, places={0x0000: 0x0100}, steps=2)
        self.assertEqual((got.word(0xFFFE), got.word(0x0000)), (0x0012, 0x3400))

    def test_s_is_one_of_the_two(self):
        got = run_words([with_register(0x3800, 2, 0, 2)], regs={2: 0x0100})
        self.assertEqual((got.reg(2), got.reg(3)), (0x0001, 0x0000))
        got = run_words([with_register(0x3800, 2, 0, 3)], regs={2: 0x0100, 3: 0x0203})
        self.assertEqual((got.reg(2), got.reg(3)), (0x0002, 0x0300))

    def test_way_3_moves_the_register_on_first(self):
        got = run_words([with_register(0x3800, 2, 3, 2)], regs={2: 0x0300}, places={0x0300: 0x0010})
        self.assertEqual((got.reg(2), got.reg(3)), (0x0000, 0x3020))


class Division(unittest.TestCase):
    def test_3c00(self):
        for s in WORD_EDGES:
            for high in (0, 1, 0x7FFF, 0x8000, 0xFFFE, 0xFFFF):
                for low in (0, 1, 0x8000, 0xFFFF):
                    for before in (0, EXISTING):
                        got = run_words([with_register(0x3C00, 2, 0, 1)], regs={1: s, 2: high, 3: low}, status=before)
                        number = high << 16 | low
                        if s <= high:
                            self.assertEqual((got.changes, got.status), ([], before | O))
                        else:
                            self.assertEqual((got.reg(2), got.reg(3)), (number // s, number % s))
                            self.assertEqual(got.status, before & ~O)
                        self.assertEqual((got.reg(1), got.p, got.done), (s, 0x0102, 1))

    def test_by_hand(self):
        got = run_words([with_register(0x3C00, 2, 0, 1)], regs={1: 0x000A, 2: 0x0000, 3: 0x0067}, status=O)
        self.assertEqual((got.reg(2), got.reg(3), got.status), (0x000A, 0x0003, 0))

    def test_not_done_by_0(self):
        got = run_words([with_register(0x3C00, 2, 0, 1)], regs={1: 0, 2: 0, 3: 5})
        self.assertEqual((got.changes, got.status, got.done, got.why), ([], O, 1, 0))

    def test_not_done_but_way_3_has_moved_on(self):
        got = run_words([with_register(0x3C00, 2, 3, 1)], regs={1: 0x0300, 2: 5, 3: 5}, places={0x0300: 5})
        self.assertEqual((got.reg(1), got.reg(2), got.reg(3), got.status), (0x0302, 5, 5, O))

    def test_way_3_moves_the_register_on_first(self):
        # R2 is 0302 when it is divided: 0302 0000 by 0303.
        got = run_words([with_register(0x3C00, 2, 3, 2)], regs={2: 0x0300, 3: 0}, places={0x0300: 0x0303})
        self.assertEqual((got.reg(2), got.reg(3)), (0x03020000 // 0x0303, 0x03020000 % 0x0303))
        got = run_words([with_register(0x3C00, 2, 3, 2)], regs={2: 0x0300, 3: 0}, places={0x0300: 0x0302})
        self.assertEqual((got.reg(2), got.reg(3), got.status), (0x0302, 0, O))

    def test_register_15_and_the_word_behind_it(self):
        got = run_words([with_register(0x3C00, 15, 0, 1)], regs={1: 0x0100, 15: 0x0012}, places={0x0220: 0x3456})
        self.assertEqual((got.word(0x021E), got.word(0x0220)), (0x1234, 0x0056))

    def test_s_is_the_word_behind(self):
        got = run_words([with_register(0x3C00, 2, 0, 3)], regs={2: 1, 3: 3})
        self.assertEqual((got.reg(2), got.reg(3)), (0x10003 // 3, 0x10003 % 3))


if __name__ == "__main__":
    unittest.main()
