"""Number 2 of 0400: the word at s is done as an instruction."""

import unittest

from tests.helper import A, E, EXISTING, L, run_words


class Done(unittest.TestCase):
    def test_ways(self):
        # The word is SETO R2.
        for words, regs, p, r5 in (([0x0485], {5: 0x0702}, 0x0102, 0x0702), ([0x0495], {5: 0x0300}, 0x0102, 0x0300),
                                   ([0x04A0, 0x0301], {}, 0x0104, 0), ([0x04A5, 0x0200], {5: 0x0100}, 0x0104, 0x0100),
                                   ([0x04B5], {5: 0x0300}, 0x0102, 0x0302), ([0x0495], {5: 0x0301}, 0x0102, 0x0301)):
            got = run_words(words, regs=regs, places={0x0300: 0x0702}, status=EXISTING)
            self.assertEqual((got.done, got.why, got.p, got.reg(2), got.reg(5)), (1, 0, p, 0xFFFF, r5))
            self.assertEqual(got.status, EXISTING)

    def test_it_is_one_step(self):
        got = run_words([0x0485, 0x0485, 0x0485], regs={5: 0x0582}, steps=2)
        self.assertEqual((got.done, got.why, got.reg(2), got.p), (2, 0, 2, 0x0104))

    def test_words_that_it_passes_stand_at_p(self):
        # LI R2 from R5; the word behind R5 isn't looked at.
        got = run_words([0x0485, 0x8765], regs={5: 0x0202, 6: 0x1111})
        self.assertEqual((got.reg(2), got.p, got.status), (0x8765, 0x0104, L))

    def test_words_behind_those_that_number_2_passes(self):
        # X @0300, there MOV @..,@..: three words stand behind the instruction.
        got = run_words([0x04A0, 0x0300, 0x0310, 0x0320], places={0x0300: 0xC820, 0x0310: 0x1234})
        self.assertEqual((got.word(0x0320), got.p, got.done), (0x1234, 0x0108, 1))

    def test_jump_goes_from_p(self):
        got = run_words([0x04A0, 0x0300], places={0x0300: 0x1003})
        self.assertEqual(got.p, 0x010A)
        got = run_words([0x0485], regs={5: 0x10FF})
        self.assertEqual(got.p, 0x0100)

    def test_branch_and_link_keeps_p(self):
        got = run_words([0x04A0, 0x0300, 0x0320], places={0x0300: 0x06A0})
        self.assertEqual((got.p, got.reg(11)), (0x0320, 0x0106))

    def test_switch_keeps_p(self):
        got = run_words([0x04A0, 0x0300], regs={1: 0x0340, 2: 0x0380}, places={0x0300: 0x0401})
        self.assertEqual((got.w, got.p, got.reg(13), got.reg(14)), (0x0340, 0x0380, 0x0200, 0x0104))

    def test_way_3_moves_on_before_the_word_is_done(self):
        # X *R5+, there MOV R5,R2.
        got = run_words([0x04B5], regs={5: 0x0300}, places={0x0300: 0xC085})
        self.assertEqual((got.reg(5), got.reg(2)), (0x0302, 0x0302))

    def test_way_3_at_its_own_register(self):
        # R5 holds its own place 0586; moved on at once it is 0588, which is INC R8.
        got = run_words([0x0205, 0x0586, 0x04B5], w=0x057C, steps=2)
        self.assertEqual((got.done, got.why, got.reg(5), got.reg(8), got.reg(6)), (2, 0, 0x0588, 1, 0))

    def test_status_is_that_of_the_word(self):
        got = run_words([0x0485], regs={5: 0x0582, 2: 0xFFFF}, status=L | A)
        self.assertEqual((got.reg(2), got.status), (0, E | 0x1000))

    def test_idling_is_done_and_counted(self):
        got = run_words([0x04B5], regs={5: 0x0300}, places={0x0300: 0x0340}, steps=5)
        self.assertEqual((got.done, got.why, got.p, got.reg(5)), (1, 3, 0x0102, 0x0302))


class NotDone(unittest.TestCase):
    def check(self, inner, why):
        for words, regs in (([0x1000, 0x0485], {5: inner}), ([0x1000, 0x0495], {5: 0x0300}),
                            ([0x1000, 0x04A0, 0x0300], {}), ([0x1000, 0x04A5, 0x0200], {5: 0x0100}),
                            ([0x1000, 0x04B5], {5: 0x0300}), ([0x1000, 0x04B5], {5: 0x0301}),
                            ([0x1000, 0x04B0], {0: 0x0300})):
            got = run_words(words, regs=regs, places={0x0300: inner}, steps=9, status=EXISTING)
            self.assertEqual((got.done, got.why, got.changes), (1, why, []), (hex(inner), hex(words[1])))
            self.assertEqual((got.w, got.p, got.status), (0x0200, 0x0102, EXISTING))

    def test_no_such_instruction(self):
        for inner in (0x0000, 0x01FF, 0x0210, 0x0781, 0x0C00):
            self.check(inner, 1)

    def test_for_the_outside(self):
        for inner in (0x3035, 0x3635, 0x1D00, 0x1FFF, 0x0360, 0x03A0, 0x03C0, 0x03E0):
            self.check(inner, 2)

    def test_by_itself(self):
        for inner in (0x0480, 0x0485, 0x0495, 0x04A0, 0x04B5, 0x04BF):
            self.check(inner, 4)

    def test_its_neighbours_are_others(self):
        # B *R15 and CLR R0.
        got = run_words([0x0485], regs={5: 0x045F, 15: 0x0300})
        self.assertEqual((got.done, got.why, got.p), (1, 0, 0x0300))
        got = run_words([0x0485], regs={5: 0x04C0, 0: 7})
        self.assertEqual((got.done, got.why, got.reg(0)), (1, 0, 0))

    def test_of_its_own_place(self):
        got = run_words([0x04A0, 0x0100], steps=9)
        self.assertEqual((got.done, got.why, got.changes, got.p), (0, 4, [], 0x0100))

    def test_way_3_at_its_own_register(self):
        # R3 holds its own place 0206; moved on at once it is 0208, which is LI R8. At 0306 it is 0308, which is none.
        got = run_words([0x04B3], regs={3: 0x0206})
        self.assertEqual((got.done, got.why, got.reg(3), got.p), (1, 0, 0x0208, 0x0104))
        got = run_words([0x04B3], regs={3: 0x0306}, w=0x0300)
        self.assertEqual((got.done, got.why, got.reg(3), got.p), (0, 1, 0x0306, 0x0100))


if __name__ == "__main__":
    unittest.main()
