"""Which words are instructions, which are for the outside, which are none."""

import unittest

from tests.helper import RESET, ask, code, get_call, run_call

OUTSIDE_WORDS = (0x0360, 0x03A0, 0x03C0, 0x03E0)
INSTRUCTIONS = (
    (0x0200, 0x020F), (0x0220, 0x022F), (0x0240, 0x024F), (0x0260, 0x026F), (0x0280, 0x028F), (0x02A0, 0x02AF),
    (0x02C0, 0x02CF), (0x02E0, 0x02E0), (0x0300, 0x0300), (0x0340, 0x0340), (0x0380, 0x0380), (0x0400, 0x047F),
    (0x04C0, 0x077F), (0x0800, 0x0BFF), (0x1000, 0x1CFF), (0x2000, 0x2FFF), (0x3800, 0xFFFF),
)


def expected_why(word):
    if any(first <= word <= last for first, last in INSTRUCTIONS):
        return 3 if word == 0x0340 else 0
    if word in OUTSIDE_WORDS or 0x3000 <= word <= 0x37FF or 0x1D00 <= word <= 0x1FFF:
        return 2
    return 1


class Decoding(unittest.TestCase):
    def check(self, words):
        """One step on each word, in lists of a hundred."""
        for start in range(0, len(words), 100):
            some = words[start:start + 100]
            told = ask(*[call for word in some for call in (RESET, run_call(1, code(word)), get_call(1))])
            for k, word in enumerate(some):
                answer, place = told[3 * k + 1], told[3 * k + 2]
                why = expected_why(word)
                self.assertEqual(answer[:2], [0 if why in (1, 2) else 1, why], hex(word))
                if why in (1, 2):
                    self.assertEqual((answer, place), ([0, why, 0], [0, 0]), hex(word))

    def test_below_4000(self):
        self.check([word for word in range(0x4000) if not 0x0480 <= word <= 0x04BF])

    def test_4000_on(self):
        self.check(list(range(0x4000, 0x10000, 13)) + [0xFFFF])


if __name__ == "__main__":
    unittest.main()
