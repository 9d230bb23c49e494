"""An operand by its way and register: words and bytes, odd places, and places that go round."""

import unittest

from tests.helper import run_words

MOV, MOVB, ADD, CLR, SETO, INC = 0xC000, 0xD000, 0xA000, 0x04C0, 0x0700, 0x0580


def two(base, s_way, s, d_way, d):
    return base | d_way << 10 | d << 6 | s_way << 4 | s


class WordWays(unittest.TestCase):
    def test_way_0(self):
        for r in (0, 1, 15):
            got = run_words([SETO | r], regs={r: 0x1234})
            self.assertEqual((got.reg(r), len(got.changes), got.p), (0xFFFF, 2, 0x0102))

    def test_way_1(self):
        for r in (0, 1, 15):
            got = run_words([SETO | 0x10 | r], regs={r: 0x0300})
            self.assertEqual((got.word(0x0300), got.reg(r), len(got.changes), got.p), (0xFFFF, 0x0300, 2, 0x0102))

    def test_way_2_with_r_0_is_the_word_alone(self):
        got = run_words([SETO | 0x20, 0x0300], regs={0: 0x0010})
        self.assertEqual((got.word(0x0300), got.reg(0), len(got.changes), got.p), (0xFFFF, 0x0010, 2, 0x0104))

    def test_way_2_with_r_not_0_is_r_more(self):
        for r in (1, 15):
            got = run_words([SETO | 0x20 | r, 0x0300], regs={r: 0x0010})
            self.assertEqual((got.word(0x0310), got.reg(r), len(got.changes), got.p), (0xFFFF, 0x0010, 2, 0x0104))

    def test_way_2_goes_round(self):
        got = run_words([SETO | 0x21, 0xFFF0], regs={1: 0x0310})
        self.assertEqual((got.word(0x0300), len(got.changes)), (0xFFFF, 2))
        got = run_words([SETO | 0x21, 0x0002], regs={1: 0xFFFF})
        self.assertEqual((got.word(0x0000), len(got.changes)), (0xFFFF, 2))

    def test_way_3(self):
        for r in (0, 1, 15):
            got = run_words([SETO | 0x30 | r], regs={r: 0x0300})
            self.assertEqual((got.word(0x0300), got.reg(r), got.p), (0xFFFF, 0x0302, 0x0102))

    def test_way_3_goes_round(self):
        got = run_words([SETO | 0x31], regs={1: 0xFFFE})
        self.assertEqual((got.word(0xFFFE), got.reg(1)), (0xFFFF, 0x0000))
        got = run_words([SETO | 0x31], regs={1: 0xFFFF})
        self.assertEqual((got.word(0xFFFE), got.reg(1)), (0xFFFF, 0x0001))

    def test_odd_places_of_words_are_taken_down(self):
        self.assertEqual(run_words([SETO | 0x11], regs={1: 0x0301}).changes, [(0x0300, 0xFF), (0x0301, 0xFF)])
        self.assertEqual(run_words([SETO | 0x20, 0x0301]).changes, [(0x0300, 0xFF), (0x0301, 0xFF)])
        got = run_words([SETO | 0x21, 0x0301], regs={1: 1})
        self.assertEqual(got.changes, [(0x0302, 0xFF), (0x0303, 0xFF)])
        got = run_words([SETO | 0x31], regs={1: 0x0301})
        self.assertEqual((got.word(0x0300), got.word(0x0302), got.reg(1)), (0xFFFF, 0, 0x0303))

    def test_every_pair_of_ways(self):
        # s is 5678 and d 1111, reached by R1 and R2; words that are passed stand behind, s's first.
        for s_way in range(4):
            for d_way in range(4):
                passed = [0x02F0] * (s_way == 2) + [0x0310] * (d_way == 2)
                regs = {1: (0x5678, 0x0300, 0x0010, 0x0300)[s_way], 2: (0x1111, 0x0320, 0x0010, 0x0320)[d_way]}
                got = run_words([two(ADD, s_way, 1, d_way, 2)] + passed, regs=regs,
                                places={0x0300: 0x5678, 0x0320: 0x1111})
                self.assertEqual(got.word(0x0204 if d_way == 0 else 0x0320), 0x6789)
                self.assertEqual(got.reg(1), regs[1] + 2 * (s_way == 3))
                if d_way:
                    self.assertEqual(got.reg(2), regs[2] + 2 * (d_way == 3))
                self.assertEqual(got.p, 0x0102 + 2 * len(passed))


class ByteWays(unittest.TestCase):
    def test_way_0_is_the_higher_byte(self):
        got = run_words([two(MOVB, 0, 1, 0, 2)], regs={1: 0x1234, 2: 0x5678})
        self.assertEqual((got.reg(1), got.reg(2)), (0x1234, 0x1278))

    def test_even_and_odd_places(self):
        for s_place, value in ((0x0300, 0x12), (0x0301, 0x34)):
            for d_place in (0x0310, 0x0311):
                got = run_words([two(MOVB, 1, 1, 1, 2)], regs={1: s_place, 2: d_place},
                                places={0x0300: 0x1234, 0x0310: 0x5678})
                self.assertEqual(got.changes, [(d_place, value)])

    def test_way_2(self):
        got = run_words([two(MOVB, 2, 0, 2, 0), 0x0301, 0x0310], places={0x0300: 0x1234, 0x0310: 0x5678})
        self.assertEqual((got.changes, got.p), ([(0x0310, 0x34)], 0x0106))
        got = run_words([two(MOVB, 2, 1, 2, 2), 0x02FF, 0x0310], regs={1: 2, 2: 1},
                        places={0x0300: 0x1234, 0x0310: 0x5678})
        self.assertEqual((got.changes, got.p), ([(0x0311, 0x34)], 0x0106))

    def test_way_2_goes_round(self):
        got = run_words([two(MOVB, 0, 3, 2, 1), 0xFFFF], regs={1: 2, 3: 0x9900})
        self.assertEqual(got.changes, [(0x0001, 0x99)])
        got = run_words([two(MOVB, 0, 3, 2, 1), 0xFFFE], regs={1: 1, 3: 0x9900})
        self.assertEqual(got.changes, [(0xFFFF, 0x99)])

    def test_way_3_moves_on_by_1(self):
        got = run_words([two(MOVB, 3, 1, 3, 2)] * 3, regs={1: 0x0300, 2: 0x0311}, steps=3,
                        places={0x0300: 0x1234, 0x0302: 0x5678})
        self.assertEqual([got.byte(place) for place in range(0x0310, 0x0315)], [0, 0x12, 0x34, 0x56, 0])
        self.assertEqual((got.reg(1), got.reg(2)), (0x0303, 0x0314))

    def test_way_3_goes_round(self):
        got = run_words([two(MOVB, 0, 3, 3, 2)], regs={2: 0xFFFF, 3: 0x7700})
        self.assertEqual((got.byte(0xFFFF), got.reg(2)), (0x77, 0))


class OneRegister(unittest.TestCase):
    """Both operands at one register, and registers that way 3 moves on while they are used."""

    def test_both_way_0(self):
        self.assertEqual(run_words([two(ADD, 0, 1, 0, 1)], regs={1: 0x1234}).reg(1), 0x2468)

    def test_s_way_3_is_moved_on_before_d_is_read(self):
        got = run_words([two(ADD, 3, 1, 0, 1)], regs={1: 0x0300}, places={0x0300: 0x1000})
        self.assertEqual(got.reg(1), 0x1302)

    def test_s_way_3_is_overwritten_by_d(self):
        got = run_words([two(MOV, 3, 1, 0, 1)], regs={1: 0x0300}, places={0x0300: 0x1000})
        self.assertEqual(got.reg(1), 0x1000)

    def test_s_is_read_before_d_way_3_moves_on(self):
        got = run_words([two(MOV, 0, 1, 3, 1)], regs={1: 0x0300})
        self.assertEqual((got.word(0x0300), got.reg(1)), (0x0300, 0x0302))

    def test_both_way_3(self):
        got = run_words([two(MOV, 3, 1, 3, 1)], regs={1: 0x0300}, places={0x0300: 0x1234})
        self.assertEqual((got.word(0x0302), got.reg(1)), (0x1234, 0x0304))
        got = run_words([two(MOVB, 3, 1, 3, 1)], regs={1: 0x0300}, places={0x0300: 0x1234})
        self.assertEqual((got.word(0x0300), got.reg(1)), (0x1212, 0x0302))

    def test_s_way_3_then_d_way_1_and_2(self):
        got = run_words([two(MOV, 3, 1, 1, 1)], regs={1: 0x0300}, places={0x0300: 0x1234})
        self.assertEqual((got.word(0x0302), got.reg(1)), (0x1234, 0x0302))
        got = run_words([two(MOV, 3, 1, 2, 1), 0x0010], regs={1: 0x0300}, places={0x0300: 0x1234})
        self.assertEqual((got.word(0x0312), got.reg(1)), (0x1234, 0x0302))

    def test_s_way_3_at_its_own_register_is_moved_on_at_once(self):
        # R1 holds its own place, so what is read there is the place moved on already.
        got = run_words([two(MOV, 3, 1, 0, 2)], regs={1: 0x0202})
        self.assertEqual((got.reg(1), got.reg(2)), (0x0204, 0x0204))

    def test_d_way_3_at_its_own_register_is_moved_on_at_once(self):
        got = run_words([two(ADD, 0, 2, 3, 1)], regs={1: 0x0202, 2: 0x1000})
        self.assertEqual(got.reg(1), 0x1204)
        got = run_words([two(MOV, 0, 2, 3, 1)], regs={1: 0x0202, 2: 0x1000})
        self.assertEqual(got.reg(1), 0x1000)

    def test_one_operand_way_3_at_its_own_register(self):
        self.assertEqual(run_words([INC | 0x31], regs={1: 0x0202}).reg(1), 0x0205)
        self.assertEqual(run_words([CLR | 0x31], regs={1: 0x0202}).reg(1), 0)

    def test_byte_way_3_at_its_own_register(self):
        # The lower byte of R1 is at 0203: it is read as 04, moved on already.
        got = run_words([two(MOVB, 3, 1, 0, 2)], regs={1: 0x0203})
        self.assertEqual((got.reg(1), got.reg(2)), (0x0204, 0x0400))

    def test_d_way_0_of_the_register_that_s_way_1_reads_through(self):
        got = run_words([two(MOV, 1, 1, 0, 1)], regs={1: 0x0300}, places={0x0300: 0x4321})
        self.assertEqual((got.reg(1), got.word(0x0300)), (0x4321, 0x4321))


class RegistersAnywhere(unittest.TestCase):
    def test_registers_in_the_code(self):
        # R1 is the word behind INC R1: the instruction there becomes the next one.
        got = run_words([INC | 1, 0x04C2, 0], w=0x0100, p=0x0100, steps=2)
        self.assertEqual(got.word(0x0102), 0x04C3)
        self.assertEqual((got.done, got.p, got.reg(3)), (2, 0x0104, 0))
        got = run_words([INC | 1, 0x0701, 0, 0], w=0x0100, p=0x0100, steps=2)
        self.assertEqual((got.reg(1), got.reg(2)), (0x0702, 0xFFFF))

    def test_instruction_changes_itself(self):
        got = run_words([0x0700], w=0x0100, p=0x0100)
        self.assertEqual((got.done, got.word(0x0100), got.p), (1, 0xFFFF, 0x0102))

    def test_word_passed_is_a_register_that_s_moved_on(self):
        # R1 is the word behind MOV *R1+,@..: d's place is R1 as it is moved on.
        got = run_words([two(MOV, 3, 1, 2, 0), 0x0300], w=0x0100, p=0x0100, places={0x0300: 0x1234})
        self.assertEqual((got.word(0x0302), got.word(0x0102), got.p), (0x1234, 0x0302, 0x0104))

    def test_registers_go_round(self):
        # Of the workspace FFF0, R8 is at 0 and R15 at 000E.
        got = run_words([two(MOV, 0, 8, 0, 7), two(MOV, 0, 15, 0, 0)], w=0xFFF0, steps=2,
                        places={0x0000: 0x1234, 0x000E: 0x5678})
        self.assertEqual((got.word(0xFFFE), got.word(0xFFF0)), (0x1234, 0x5678))
        got = run_words([SETO | 0x38], w=0xFFF0, places={0x0000: 0x0300})
        self.assertEqual((got.word(0x0300), got.word(0x0000)), (0xFFFF, 0x0302))

    def test_place_of_a_register_goes_round(self):
        # BL R8 of the workspace FFF0 goes to place 0.
        got = run_words([0x0688], w=0xFFF0)
        self.assertEqual((got.p, got.word(0x0006)), (0x0000, 0x0102))


if __name__ == "__main__":
    unittest.main()
