"""The processor's state, and what is asked of it from outside."""

from sixteenbits.memory import Memory

NARROW_A = 32
NARROW_X = 16
DECIMAL = 8
IRQ_OFF = 4

STACK_PAGE = 256
FIRST_STACK = 0x1FF
RESET_VECTOR = 0xFFFC

ASK_RESET = 0
ASK_NMI = 1
ASK_IRQ = 2
ASK_NO_IRQ = 3


class Cpu:
    """Registers, flags, what is asked for, and memory."""

    def __init__(self):
        self.begin()

    def begin(self):
        """Makes all of the machine new."""
        self.memory = Memory()
        self.a = 0
        self.x = 0
        self.y = 0
        self.d = 0
        self.s = FIRST_STACK
        self.pc = 0
        self.pb = 0
        self.db = 0
        self.flags = NARROW_A | NARROW_X | IRQ_OFF
        self.emulation = True
        self.waiting = False
        self.stopped = False
        self.nmi_asked = False
        self.irq_asked = False

    def ask(self, k):
        """Does what is asked for by its number; False if there is no such number."""
        if k == ASK_RESET:
            self.reset()
        elif k == ASK_NMI:
            self.nmi_asked = True
        elif k == ASK_IRQ:
            self.irq_asked = True
        elif k == ASK_NO_IRQ:
            self.irq_asked = False
        else:
            return False
        return True

    def reset(self):
        """Starts the program anew; A, the flags not told of, memory and an asked IRQ stay."""
        self.enter_emulation()
        self.d = 0
        self.db = 0
        self.pb = 0
        self.flags = (self.flags | IRQ_OFF) & ~DECIMAL
        self.waiting = False
        self.stopped = False
        self.nmi_asked = False
        self.pc = self.bank_0_word(RESET_VECTOR)

    def enter_emulation(self):
        """Emulation, with all that it means for flags, indexes and S."""
        self.emulation = True
        self.flags = self.flags | NARROW_A | NARROW_X
        self.x = self.x % 256
        self.y = self.y % 256
        self.s = STACK_PAGE + self.s % 256

    def bank_0_word(self, at):
        """The two bytes at a place of bank 0; behind its last byte comes its first."""
        return self.memory.tell(at) + 256 * self.memory.tell((at + 1) % 65536)
