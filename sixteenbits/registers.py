"""Registers by their number: telling and setting them."""

from sixteenbits.cpu import NARROW_X
from sixteenbits.widths import mask_of


def tell_all(cpu):
    """All registers, in the order of their numbers."""
    return [
        cpu.a, cpu.x, cpu.y, cpu.d, cpu.s, cpu.pc, cpu.pb, cpu.db, cpu.flags, 1 if cpu.emulation else 0]


def set_a(cpu, value):
    """Sets all of A, of whatever width."""
    cpu.a = value & 65535


def set_x(cpu, value):
    """Sets X; a narrow one's upper byte is 0."""
    cpu.x = value & mask_of(cpu.flags & NARROW_X)


def set_y(cpu, value):
    """Sets Y; a narrow one's upper byte is 0."""
    cpu.y = value & mask_of(cpu.flags & NARROW_X)


def set_d(cpu, value):
    """Sets D."""
    cpu.d = value & 65535


def set_s(cpu, value):
    """Sets S; in emulation its lower byte alone."""
    cpu.set_s(value)


def set_pc(cpu, value):
    """Sets PC."""
    cpu.pc = value & 65535


def set_pb(cpu, value):
    """Sets PB."""
    cpu.pb = value & 255


def set_db(cpu, value):
    """Sets DB."""
    cpu.db = value & 255


def set_flags(cpu, value):
    """Sets the flags, as PLP would."""
    cpu.set_flags(value & 255)


def set_emulation(cpu, value):
    """Sets emulation, as XCE would; C stays."""
    cpu.set_emulation(value & 1 == 1)


SETTERS = (set_a, set_x, set_y, set_d, set_s, set_pc, set_pb, set_db, set_flags, set_emulation)


def set_one(cpu, which, value):
    """Sets the register of a number."""
    SETTERS[which](cpu, value)
