"""What holds over the whole program: nothing handed in is changed, nothing is kept, nothing is printed."""

import contextlib
import io
import random
import unittest

from tests.helper import RESET, ask, code, get_call, run_call, set_call
from wordregs.machine import answers


class Untouchable(list):
    """A list that can't be changed, not for a while either."""

    def refuse(self, *rest):
        raise AssertionError("what is handed in was changed")

    append = extend = insert = pop = remove = clear = sort = reverse = refuse
    __setitem__ = __delitem__ = __iadd__ = __imul__ = refuse


def some_line(seed):
    chance = random.Random(seed)
    line = [0, 1, 0, 0x0200]
    for turn in range(10):
        memory = [chance.randrange(256) for place in range(chance.randrange(1025))]
        line += [1, chance.randrange(-1, 4), chance.randrange(1 << 32)]
        line += run_call(chance.choice((-1, 0, 1, 20, 300, 1000001)), memory)
        line += [2, chance.randrange(-1, 4)]
        line += RESET if chance.randrange(4) == 0 else []
    return line


class HandedIn(unittest.TestCase):
    def test_is_as_it_was(self):
        for seed in range(20):
            line = some_line(seed)
            copy = list(line)
            answers(line)
            self.assertEqual(line, copy)

    def test_is_not_changed_for_a_while(self):
        for seed in range(20):
            line = some_line(seed)
            self.assertEqual(answers(Untouchable(line)), answers(line))


class NothingKept(unittest.TestCase):
    def test_asked_twice(self):
        for seed in range(20):
            line = some_line(seed)
            self.assertEqual(answers(line), answers(line))

    def test_another_line_between(self):
        line = [0] + get_call(0) + get_call(1) + get_call(2) + run_call(1, [])
        first = answers(line)
        answers([0] + set_call(0, 0x1234) + set_call(1, 0x10) + set_call(2, 0xFFFF) + run_call(1, code(0x0720, 0x0000)))
        self.assertEqual(answers(line), first)

    def test_answers_are_a_new_list(self):
        first = answers([0])
        first.append(7)
        self.assertEqual(answers([0]), [1, 0])


class AnyLine(unittest.TestCase):
    def test_form_of_the_answers(self):
        for seed in range(20, 60):
            told = answers(some_line(seed))
            self.assertEqual({type(number) for number in told}, {int})
            for answer in ask(some_line(seed)):
                if len(answer) > 2:
                    self.assertEqual(answer[2], len(answer) - 3)
                    places = answer[3::2]
                    self.assertEqual(places, sorted(set(places)))
                    self.assertTrue(all(0 <= value <= 255 for value in answer[4::2]))
                    self.assertTrue(all(0 <= place <= 65535 for place in places))

    def test_most_calls(self):
        told = ask(RESET, *[get_call(0)] * 299)
        self.assertEqual(told, [[0]] + [[0, 0]] * 299)

    def test_longest_list(self):
        memory = [0x10, 0x00] * 512
        calls = [RESET] + [run_call(1, memory)] * 29
        self.assertLessEqual(sum(len(call) for call in calls), 30000)
        self.assertEqual(ask(*calls), [[0]] + [[1, 0, 0]] * 29)

    def test_prints_nothing(self):
        out, err = io.StringIO(), io.StringIO()
        with contextlib.redirect_stdout(out), contextlib.redirect_stderr(err):
            answers(some_line(1))
        self.assertEqual((out.getvalue(), err.getvalue()), ("", ""))


if __name__ == "__main__":
    unittest.main()
