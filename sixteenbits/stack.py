"""Pushing and pulling: PHA to PLY, PEA, PEI, PER."""

from sixteenbits.cpu import NARROW_A, NARROW_X
from sixteenbits.widths import keep_a, note_byte, note_word, noted, read_number, worked_on_a


def push_number(cpu, number, narrow):
    """Pushes one byte if it is narrow, else two."""
    if narrow:
        cpu.push_byte(number)
    else:
        cpu.push_word(number)


def pull_number(cpu, narrow):
    """Pulls one byte if it is narrow, else two."""
    if narrow:
        return cpu.pull_byte()
    return cpu.pull_word()


def pha(cpu):
    """Pushes A, as wide as it is."""
    push_number(cpu, worked_on_a(cpu), cpu.flags & NARROW_A)


def phx(cpu):
    """Pushes X, as wide as it is."""
    push_number(cpu, cpu.x, cpu.flags & NARROW_X)


def phy(cpu):
    """Pushes Y, as wide as it is."""
    push_number(cpu, cpu.y, cpu.flags & NARROW_X)


def pla(cpu):
    """Pulls A, as wide as it is."""
    keep_a(cpu, pull_number(cpu, cpu.flags & NARROW_A))


def plx(cpu):
    """Pulls X, as wide as it is."""
    narrow = cpu.flags & NARROW_X
    cpu.x = noted(cpu, pull_number(cpu, narrow), narrow)


def ply(cpu):
    """Pulls Y, as wide as it is."""
    narrow = cpu.flags & NARROW_X
    cpu.y = noted(cpu, pull_number(cpu, narrow), narrow)


def php(cpu):
    """Pushes the flags."""
    cpu.push_byte(cpu.flags)


def plp(cpu):
    """Pulls the flags."""
    cpu.set_flags(cpu.pull_byte())


def phd(cpu):
    """Pushes D."""
    cpu.push_word(cpu.d)


def pld(cpu):
    """Pulls D."""
    cpu.d = cpu.pull_word()
    note_word(cpu, cpu.d)


def phb(cpu):
    """Pushes DB."""
    cpu.push_byte(cpu.db)


def plb(cpu):
    """Pulls DB."""
    cpu.db = cpu.pull_byte()
    note_byte(cpu, cpu.db)


def phk(cpu):
    """Pushes PB."""
    cpu.push_byte(cpu.pb)


def pea(cpu):
    """Pushes w."""
    cpu.push_word(cpu.take_word())


def pei(cpu, place):
    """Pushes the two bytes at a place."""
    cpu.push_word(read_number(cpu, place, False))


def per(cpu):
    """Pushes PC behind the instruction and rl."""
    away = cpu.take_word()
    cpu.push_word(cpu.pc + away & 65535)


STACK = {
    "PHA": pha, "PHX": phx, "PHY": phy, "PLA": pla, "PLX": plx, "PLY": ply, "PHP": php, "PLP": plp,
    "PHD": phd, "PLD": pld, "PHB": phb, "PLB": plb, "PHK": phk, "PEA w": pea, "PER rl": per,
}

STACK_AT_PLACES = {"PEI": pei}
