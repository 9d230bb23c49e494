"""Instructions one behind another, till the steps are over or one of them stops the run."""

from wordregs.operands import do_two_operands, do_with_one_operand, do_with_register
from wordregs.others import do_below_0400, do_jump, do_shift
from wordregs.stops import BY_ITSELF, GOES_ON, IDLES, NO_SUCH, OUTSIDE


def is_do_word_at(word):
    """Whether it's number 2 of 0400, which does the word at s."""
    return word & 0xFFC0 == 0x0480


def do_word(cpu, word):
    """Does any instruction but number 2 of 0400; answers why it stops."""
    if word >= 0x4000:
        do_two_operands(cpu, word)
    elif 0x3000 <= word <= 0x37FF or 0x1D00 <= word <= 0x1FFF:
        return OUTSIDE
    elif word >= 0x2000:
        do_with_register(cpu, word)
    elif word >= 0x1000:
        do_jump(cpu, word)
    elif 0x0800 <= word <= 0x0BFF:
        do_shift(cpu, word)
    elif 0x0400 <= word <= 0x077F:
        do_with_one_operand(cpu, word)
    elif word < 0x0400:
        return do_below_0400(cpu, word)
    else:
        return NO_SUCH
    return GOES_ON


def is_done(why):
    return why == GOES_ON or why == IDLES


def do_word_at(cpu, word):
    r = word & 15
    before = cpu.in_register(r)
    inner = cpu.word_at(cpu.operand_place(word, 2))
    why = BY_ITSELF if is_do_word_at(inner) else do_word(cpu, inner)
    if not is_done(why):
        # Way 3 has moved the register on already, and nothing may be done.
        cpu.put_register(r, before)
    return why


def do_next(cpu):
    place = cpu.next_place
    word = cpu.passed_word()
    why = do_word_at(cpu, word) if is_do_word_at(word) else do_word(cpu, word)
    if not is_done(why):
        cpu.go_to(place)
    return why


def run_steps(cpu, steps):
    """Answers how many were done, and why it stopped."""
    done = 0
    while done < steps:
        why = do_next(cpu)
        if is_done(why):
            done = done + 1
        if why != GOES_ON:
            return [done, why]
    return [done, GOES_ON]
