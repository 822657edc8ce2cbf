"""MVN and MVP, and the instructions that do next to nothing: WDM, NOP, WAI, STP."""

from sixteenbits.cpu import NARROW_X
from sixteenbits.widths import mask_of

MOVE_LENGTH = 3


def move_byte(cpu, more):
    """One byte from bank to bank; X and Y so many more; the instruction comes again unless A was 0."""
    bank_to = cpu.take_byte()
    bank_from = cpu.take_byte()
    cpu.memory.put((bank_to << 16) + cpu.y, cpu.banks[bank_from][cpu.x])
    mask = mask_of(cpu.flags & NARROW_X)
    cpu.x = cpu.x + more & mask
    cpu.y = cpu.y + more & mask
    cpu.db = bank_to
    if cpu.a:
        cpu.pc = cpu.pc - MOVE_LENGTH & 65535
    cpu.a = cpu.a - 1 & 65535


def mvn(cpu):
    """One byte, upwards."""
    move_byte(cpu, 1)


def mvp(cpu):
    """One byte, downwards."""
    move_byte(cpu, -1)


def wdm(cpu):
    """Passes i8."""
    cpu.take_byte()


def nop(cpu):
    """Nothing."""
    pass


def wai(cpu):
    """Waits."""
    cpu.waiting = True


def stp(cpu):
    """Stops."""
    cpu.stopped = True


MOVES = {"MVN b": mvn, "MVP b": mvp, "WDM i8": wdm, "NOP": nop, "WAI": wai, "STP": stp}
