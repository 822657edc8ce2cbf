"""Interrupts, by an instruction or asked from outside."""

from sixteenbits.cpu import DECIMAL, IRQ_OFF, NARROW_X

COP_VECTOR = 0xFFE4
BRK_VECTOR = 0xFFE6
NMI_VECTOR = 0xFFEA
IRQ_VECTOR = 0xFFEE
EMULATION_COP_VECTOR = 0xFFF4
EMULATION_NMI_VECTOR = 0xFFFA
EMULATION_BRK_VECTOR = 0xFFFE
EMULATION_IRQ_VECTOR = 0xFFFE


def interrupt(cpu, pushed_flags, vector):
    """Pushes where the program is and its flags, and goes on at the vector."""
    if not cpu.emulation:
        cpu.push_byte(cpu.pb)
    cpu.push_word(cpu.pc)
    cpu.push_byte(pushed_flags)
    cpu.flags = (cpu.flags | IRQ_OFF) & ~DECIMAL
    cpu.pb = 0
    cpu.pc = cpu.bank_0_word(vector)


def interrupt_outside(cpu, vector, emulation_vector):
    """An interrupt that was asked for: in emulation, this shows in the flags that it pushes."""
    if cpu.emulation:
        interrupt(cpu, cpu.flags & ~NARROW_X, emulation_vector)
    else:
        interrupt(cpu, cpu.flags, vector)


def nmi(cpu):
    """The interrupt NMI."""
    interrupt_outside(cpu, NMI_VECTOR, EMULATION_NMI_VECTOR)


def irq(cpu):
    """The interrupt IRQ."""
    interrupt_outside(cpu, IRQ_VECTOR, EMULATION_IRQ_VECTOR)


def brk(cpu):
    """An interrupt, behind i8."""
    cpu.take_byte()
    interrupt(cpu, cpu.flags, EMULATION_BRK_VECTOR if cpu.emulation else BRK_VECTOR)


def cop(cpu):
    """An interrupt, behind i8."""
    cpu.take_byte()
    interrupt(cpu, cpu.flags, EMULATION_COP_VECTOR if cpu.emulation else COP_VECTOR)


def rti(cpu):
    """Back to where an interrupt was."""
    cpu.set_flags(cpu.pull_byte())
    cpu.pc = cpu.pull_word()
    if not cpu.emulation:
        cpu.pb = cpu.pull_byte()


INTERRUPTS = {"BRK i8": brk, "COP i8": cop, "RTI": rti}
