"""The calls on one machine, written one behind another in a list, and their answers."""

from wordregs.processor import Processor
from wordregs.steps import run_steps

REFUSED = -2
MOST_STEPS = 1000000
MEMORY_WORDS = 32768
PAGE_WORDS = 256


def words_of(memory):
    """The memory's words, from its first bytes."""
    padded = memory + [0] * (len(memory) % 2)
    words = [(padded[k] << 8) | padded[k + 1] for k in range(0, len(padded), 2)]
    return words + [0] * (MEMORY_WORDS - len(words))


def changed_bytes_of_word(k, before, after):
    told = []
    if before >> 8 != after >> 8:
        told.extend([2 * k, after >> 8])
    if before & 0xFF != after & 0xFF:
        told.extend([2 * k + 1, after & 0xFF])
    return told


def changed_bytes(before, after):
    """Looks by pages first, as most of the memory is as it was."""
    told = []
    for start in range(0, MEMORY_WORDS, PAGE_WORDS):
        end = start + PAGE_WORDS
        if before[start:end] != after[start:end]:
            for k in range(start, end):
                told.extend(changed_bytes_of_word(k, before[k], after[k]))
    return told


def answer_reset(cpu):
    cpu.use_workspace(0)
    cpu.go_to(0)
    cpu.use_status(0)
    return [0]


def answer_set(cpu, which, value):
    if which == 0:
        cpu.use_workspace(value)
    elif which == 1:
        cpu.go_to(value)
    elif which == 2:
        cpu.use_status(value)
    else:
        return [REFUSED]
    return [0]


def answer_get(cpu, which):
    if which == 0:
        return [0, cpu.workspace]
    if which == 1:
        return [0, cpu.next_place]
    if which == 2:
        return [0, cpu.status]
    return [REFUSED]


def answer_run(cpu, steps, memory):
    if steps < 0 or steps > MOST_STEPS:
        return [REFUSED]
    before = words_of(memory)
    cpu.words = list(before)
    done_and_why = run_steps(cpu, steps)
    told = changed_bytes(before, cpu.words)
    return done_and_why + [len(told)] + told


def call_length(calls, start):
    if calls[start] == 0:
        return 1
    if calls[start] == 1:
        return 3
    if calls[start] == 2:
        return 2
    return 3 + calls[start + 2]


def answer_call(cpu, call):
    if call[0] == 0:
        return answer_reset(cpu)
    if call[0] == 1:
        return answer_set(cpu, call[1], call[2])
    if call[0] == 2:
        return answer_get(cpu, call[1])
    return answer_run(cpu, call[1], call[3:])


def answers(calls):
    cpu = Processor()
    told = []
    start = 0
    while start < len(calls):
        end = start + call_length(calls, start)
        answer = answer_call(cpu, calls[start:end])
        told.append(len(answer))
        told.extend(answer)
        start = end
    return told
