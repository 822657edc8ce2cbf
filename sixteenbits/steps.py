"""Steps: instructions, interrupts, waiting and being stopped."""

from sixteenbits.cpu import IRQ_OFF, WHY_ALL_DONE, WHY_STOPPED, WHY_WAITING
from sixteenbits.interrupts import irq, nmi

# The first bytes of the branches and jumps that set nothing but PC.
SET_PC_ALONE = (0x10, 0x30, 0x4C, 0x50, 0x6C, 0x70, 0x7C, 0x80, 0x82, 0x90, 0xB0, 0xD0, 0xF0)


def run(cpu, instructions, n):
    """Does up to n steps; how many were done."""
    cpu.why = WHY_ALL_DONE
    done = 0
    while done < n and cpu.why == WHY_ALL_DONE:
        if cpu.waiting or cpu.stopped or cpu.nmi_asked or cpu.irq_asked:
            done += careful_step(cpu, instructions)
        else:
            done += plain_steps(cpu, instructions, n - done)
    return done


def plain_steps(cpu, instructions, n):
    """Does up to n instructions, as long as no other step can come; how many were done."""
    operations = instructions.operations
    places = instructions.places
    banks = cpu.banks
    for step in range(n):
        pc = cpu.pc
        first = banks[cpu.pb][pc]
        cpu.pc = pc + 1 & 65535
        find_place = places[first]
        if find_place is None:
            operations[first](cpu)
        else:
            operations[first](cpu, find_place(cpu))
        if cpu.waiting or cpu.stopped:
            return step + 1
        # What goes to itself leaves everything as it is, so all steps to come are this one again.
        if cpu.pc == pc and first in SET_PC_ALONE:
            return n
    return n


def careful_step(cpu, instructions):
    """Does whichever step comes next: 1; or tells the machine why there is none: 0."""
    if cpu.stopped:
        cpu.why = WHY_STOPPED
        return 0
    if cpu.waiting and not cpu.nmi_asked and not cpu.irq_asked:
        cpu.why = WHY_WAITING
        return 0
    cpu.waiting = False
    if cpu.nmi_asked:
        cpu.nmi_asked = False
        nmi(cpu)
        return 1
    if cpu.irq_asked and not cpu.flags & IRQ_OFF:
        irq(cpu)
        return 1
    return plain_steps(cpu, instructions, 1)
