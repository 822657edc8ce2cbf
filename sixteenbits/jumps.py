"""Branches, jumps, calls and returns."""

from sixteenbits.cpu import CARRY, NEGATIVE, OVERFLOW, ZERO


def branch(cpu, taken):
    """Passes r, and goes there if the branch is taken."""
    behind = cpu.pc + 1
    if taken:
        away = cpu.banks[cpu.pb][cpu.pc]
        cpu.pc = behind + (away if away < 128 else away - 256) & 65535
    else:
        cpu.pc = behind & 65535


def bpl(cpu):
    """With N 0."""
    branch(cpu, not cpu.flags & NEGATIVE)


def bmi(cpu):
    """With N 1."""
    branch(cpu, cpu.flags & NEGATIVE)


def bvc(cpu):
    """With V 0."""
    branch(cpu, not cpu.flags & OVERFLOW)


def bvs(cpu):
    """With V 1."""
    branch(cpu, cpu.flags & OVERFLOW)


def bcc(cpu):
    """With C 0."""
    branch(cpu, not cpu.flags & CARRY)


def bcs(cpu):
    """With C 1."""
    branch(cpu, cpu.flags & CARRY)


def bne(cpu):
    """With Z 0."""
    branch(cpu, not cpu.flags & ZERO)


def beq(cpu):
    """With Z 1."""
    branch(cpu, cpu.flags & ZERO)


def bra(cpu):
    """Always."""
    branch(cpu, True)


def brl(cpu):
    """Always, two bytes far."""
    away = cpu.take_word()
    cpu.pc = cpu.pc + away & 65535


def indexed_target(cpu):
    """The two bytes at PB:w + X, modulo 65536 in PB."""
    at = cpu.take_word() + cpu.x
    bank = cpu.banks[cpu.pb]
    return bank[at & 65535] + (bank[at + 1 & 65535] << 8)


def go_far(cpu, target):
    """On at a place of three bytes."""
    cpu.pb = target >> 16
    cpu.pc = target & 65535


def jmp_a(cpu):
    """To w in PB."""
    cpu.pc = cpu.take_word()


def jmp_ai(cpu):
    """To the two bytes at 0:w."""
    cpu.pc = cpu.bank_0_word(cpu.take_word())


def jmp_aix(cpu):
    """To the two bytes at PB:w + X."""
    cpu.pc = indexed_target(cpu)


def jml_al(cpu):
    """To l."""
    go_far(cpu, cpu.take_long())


def jml_al2(cpu):
    """To the three bytes at 0:w."""
    go_far(cpu, cpu.bank_0_long(cpu.take_word()))


def push_last_byte(cpu):
    """Pushes the place of the instruction's last byte."""
    cpu.push_word(cpu.pc - 1 & 65535)


def jsr_a(cpu):
    """To w in PB, to come back."""
    target = cpu.take_word()
    push_last_byte(cpu)
    cpu.pc = target


def jsr_aix(cpu):
    """To the two bytes at PB:w + X, to come back."""
    target = indexed_target(cpu)
    push_last_byte(cpu)
    cpu.pc = target


def jsl(cpu):
    """To l, to come back."""
    target = cpu.take_long()
    cpu.push_byte(cpu.pb)
    push_last_byte(cpu)
    go_far(cpu, target)


def rts(cpu):
    """Back behind a JSR."""
    cpu.pc = cpu.pull_word() + 1 & 65535


def rtl(cpu):
    """Back behind a JSL."""
    cpu.pc = cpu.pull_word() + 1 & 65535
    cpu.pb = cpu.pull_byte()


JUMPS = {
    "BPL r": bpl, "BMI r": bmi, "BVC r": bvc, "BVS r": bvs, "BCC r": bcc, "BCS r": bcs, "BNE r": bne, "BEQ r": beq,
    "BRA r": bra, "BRL rl": brl, "JMP a": jmp_a, "JMP ai": jmp_ai, "JMP aix": jmp_aix, "JML al": jml_al,
    "JML al2": jml_al2, "JSR a": jsr_a, "JSR aix": jsr_aix, "JSL al": jsl, "RTS": rts, "RTL": rtl,
}
