"""The calls on one machine, and their answers."""

from sixteenbits.cpu import Cpu
from sixteenbits.memory import MEMORY_SIZE
from sixteenbits.reader import Reader

CPU_BEGIN = 0
CPU_LOAD = 1
CPU_LOOK = 2
CPU_ASK = 3

DONE = 0
REFUSED = -1
MOST_BYTES = 65536


class UnknownCall(Exception):
    """A call whose number is none that can be answered."""


def answers(calls):
    """For each call, in order, how many numbers are answered, and these."""
    reader = Reader(calls)
    cpu = Cpu()
    told = []
    while reader.has_more():
        call = reader.take_number()
        numbers = reader.take_numbers()
        lists = reader.take_lists()
        answer = answer_call(cpu, call, numbers, lists)
        told.append(len(answer))
        told.extend(answer)
    return told


def answer_call(cpu, call, numbers, lists):
    """The numbers that one call answers."""
    if call == CPU_BEGIN:
        return cpu_begin(cpu)
    if call == CPU_LOAD:
        return cpu_load(cpu, numbers[0], numbers[1], lists)
    if call == CPU_LOOK:
        return cpu_look(cpu, numbers[0], numbers[1])
    if call == CPU_ASK:
        return cpu_ask(cpu, numbers[0])
    raise UnknownCall(f"no call has the number {call}")


def cpu_begin(cpu):
    """Makes the machine new."""
    cpu.begin()
    return [DONE]


def cpu_load(cpu, at, n, lists):
    """Writes n bytes of memory."""
    if not fits(at, n):
        return [REFUSED]
    # Where n is 0, no list is handed over.
    for handed in lists:
        cpu.memory.put_many(at, handed)
    return [DONE]


def cpu_look(cpu, at, n):
    """Tells n bytes of memory."""
    if not fits(at, n):
        return [REFUSED]
    return [DONE] + cpu.memory.tell_many(at, n)


def cpu_ask(cpu, k):
    """Asks for a reset or an interrupt, or no more for an IRQ."""
    if cpu.ask(k):
        return [DONE]
    return [REFUSED]


def fits(at, n):
    """Whether n bytes may be handed over at once, and all of them lie in memory."""
    return n <= MOST_BYTES and at + n <= MEMORY_SIZE
