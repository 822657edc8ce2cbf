"""The calls on one machine, and their answers."""

from sixteenbits.cpu import Cpu
from sixteenbits.instructions import Instructions
from sixteenbits.memory import MEMORY_SIZE
from sixteenbits.reader import Reader
from sixteenbits.registers import set_one, tell_all
from sixteenbits.steps import run

CPU_BEGIN = 0
CPU_LOAD = 1
CPU_LOOK = 2
CPU_ASK = 3
CPU_RUN = 4
CPU_WHY = 5
CPU_GET = 6
CPU_SET = 7

DONE = 0
REFUSED = -1
MOST_BYTES = 65536
MOST_STEPS = 10000000
REGISTER_COUNT = 10


class UnknownCall(Exception):
    """A call whose number is none that can be answered."""


def answers(calls):
    """For each call, in order, how many numbers are answered, and these."""
    reader = Reader(calls)
    # The first call is a cpu_begin, which makes the machine.
    cpu = None
    instructions = Instructions()
    told = []
    while reader.has_more():
        call = reader.take_number()
        numbers = reader.take_numbers()
        lists = reader.take_lists()
        if call == CPU_BEGIN:
            cpu = Cpu()
            answer = [DONE]
        else:
            answer = answer_call(cpu, instructions, call, numbers, lists)
        told.append(len(answer))
        told.extend(answer)
    return told


def answer_call(cpu, instructions, call, numbers, lists):
    """The numbers that one call on a machine answers."""
    if call == CPU_LOAD:
        return cpu_load(cpu, numbers[0], numbers[1], lists)
    if call == CPU_LOOK:
        return cpu_look(cpu, numbers[0], numbers[1])
    if call == CPU_ASK:
        return cpu_ask(cpu, numbers[0])
    if call == CPU_RUN:
        return cpu_run(cpu, instructions, numbers[0])
    if call == CPU_WHY:
        return cpu_why(cpu)
    if call == CPU_GET:
        return cpu_get(cpu, numbers[0])
    if call == CPU_SET:
        return cpu_set(cpu, numbers[0], numbers[1])
    raise UnknownCall(f"no call has the number {call}")


def cpu_load(cpu, at, n, lists):
    """Writes n bytes of memory."""
    if not fits(at, n):
        return [REFUSED]
    # Where n is 0, no list is handed over.
    for handed in lists:
        cpu.memory.put_many(at, handed)
    return [DONE]


def cpu_look(cpu, at, n):
    """Tells n bytes of memory."""
    if not fits(at, n):
        return [REFUSED]
    return [DONE] + cpu.memory.tell_many(at, n)


def cpu_ask(cpu, k):
    """Asks for a reset or an interrupt, or no more for an IRQ."""
    if cpu.ask(k):
        return [DONE]
    return [REFUSED]


def cpu_run(cpu, instructions, n):
    """Does up to n steps; how many were done."""
    if n > MOST_STEPS:
        return [REFUSED]
    return [run(cpu, instructions, n)]


def cpu_why(cpu):
    """Why the last cpu_run ended."""
    return [cpu.why]


def cpu_get(cpu, which):
    """Tells a register."""
    if which >= REGISTER_COUNT:
        return [REFUSED]
    return [tell_all(cpu)[which]]


def cpu_set(cpu, which, value):
    """Sets a register."""
    if which >= REGISTER_COUNT:
        return [REFUSED]
    set_one(cpu, which, value)
    return [DONE]


def fits(at, n):
    """Whether n bytes may be handed over at once, and all of them lie in memory."""
    return n <= MOST_BYTES and at + n <= MEMORY_SIZE
