"""The processor's state: registers, flags, the program's bytes, the stack, and what is asked from outside."""

from sixteenbits.memory import Memory

NEGATIVE = 128
OVERFLOW = 64
NARROW_A = 32
NARROW_X = 16
DECIMAL = 8
IRQ_OFF = 4
ZERO = 2
CARRY = 1

STACK_PAGE = 256
FIRST_STACK = 0x1FF
RESET_VECTOR = 0xFFFC

ASK_RESET = 0
ASK_NMI = 1
ASK_IRQ = 2
ASK_NO_IRQ = 3

WHY_ALL_DONE = 0
WHY_WAITING = 1
WHY_STOPPED = 2


class Cpu:
    """Registers, flags, what is asked for, and memory."""

    def __init__(self):
        self.memory = Memory()
        # The same list as memory's own: a byte is read so often that the way to it is kept short.
        self.banks = self.memory.banks
        self.a = 0
        self.x = 0
        self.y = 0
        self.d = 0
        self.s = FIRST_STACK
        self.pc = 0
        self.pb = 0
        self.db = 0
        self.flags = NARROW_A | NARROW_X | IRQ_OFF
        self.emulation = True
        self.waiting = False
        self.stopped = False
        self.nmi_asked = False
        self.irq_asked = False
        self.why = WHY_ALL_DONE

    def ask(self, k):
        """Does what is asked for by its number; False if there is no such number."""
        if k == ASK_RESET:
            self.reset()
        elif k == ASK_NMI:
            self.nmi_asked = True
        elif k == ASK_IRQ:
            self.irq_asked = True
        elif k == ASK_NO_IRQ:
            self.irq_asked = False
        else:
            return False
        return True

    def reset(self):
        """Starts the program anew; A, the flags not told of, memory and an asked IRQ stay."""
        self.set_emulation(True)
        self.d = 0
        self.db = 0
        self.pb = 0
        self.flags = (self.flags | IRQ_OFF) & ~DECIMAL
        self.waiting = False
        self.stopped = False
        self.nmi_asked = False
        self.pc = self.bank_0_word(RESET_VECTOR)

    def set_emulation(self, emulation):
        """Emulation or not, with all that it means for flags, indexes and S."""
        self.emulation = emulation
        self.set_flags(self.flags)
        self.set_s(self.s)

    def set_flags(self, flags):
        """Sets all flags, with what emulation means for them, and they for the indexes."""
        if self.emulation:
            flags = flags | NARROW_A | NARROW_X
        self.flags = flags
        if flags & NARROW_X:
            self.x = self.x & 255
            self.y = self.y & 255

    def set_s(self, s):
        """Sets S to the bits that it can have."""
        if self.emulation:
            self.s = STACK_PAGE + (s & 255)
        else:
            self.s = s & 65535

    def take_byte(self):
        """The program's next byte; PC goes on."""
        pc = self.pc
        self.pc = pc + 1 & 65535
        return self.banks[self.pb][pc]

    def take_word(self):
        """The program's next two bytes; PC goes on."""
        pc = self.pc
        self.pc = pc + 2 & 65535
        bank = self.banks[self.pb]
        return bank[pc] + (bank[pc + 1 & 65535] << 8)

    def take_long(self):
        """The program's next three bytes; PC goes on."""
        word = self.take_word()
        return word + (self.take_byte() << 16)

    def bank_0_word(self, at):
        """The two bytes at a place of bank 0, modulo 65536."""
        bank = self.banks[0]
        return bank[at & 65535] + (bank[at + 1 & 65535] << 8)

    def bank_0_long(self, at):
        """The three bytes at a place of bank 0, modulo 65536."""
        return self.bank_0_word(at) + (self.banks[0][at + 2 & 65535] << 16)

    def push_byte(self, byte):
        """Pushes one byte."""
        s = self.s
        self.banks[0][s] = byte
        self.s = STACK_PAGE + (s - 1 & 255) if self.emulation else s - 1 & 65535

    def push_word(self, word):
        """Pushes two bytes, the upper first."""
        self.push_byte(word >> 8)
        self.push_byte(word & 255)

    def pull_byte(self):
        """Pulls one byte."""
        self.set_s(self.s + 1)
        return self.banks[0][self.s]

    def pull_word(self):
        """Pulls two bytes, the lower first."""
        low = self.pull_byte()
        return low + (self.pull_byte() << 8)
