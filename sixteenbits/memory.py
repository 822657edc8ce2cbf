"""The machine's memory: 2^24 bytes in 256 banks, all 0 to begin with."""

MEMORY_SIZE = 16777216
BANK_SIZE = 65536
BANK_COUNT = 256


class Memory:
    """Bytes by their place."""

    def __init__(self):
        # All banks are one list until they are written: making all of memory for each cpu_begin would take long.
        self.banks = [[0] * BANK_SIZE] * BANK_COUNT
        self.written = [False] * BANK_COUNT
        # The stack's bank can so be written without asking first.
        self.make_bank(0)

    def make_bank(self, bank):
        """Gives a bank a list of its own, to be written."""
        self.banks[bank] = [0] * BANK_SIZE
        self.written[bank] = True

    def tell(self, at):
        """The byte at a place."""
        return self.banks[at >> 16][at & 65535]

    def put(self, at, byte):
        """Writes a byte at a place."""
        bank = at >> 16
        if not self.written[bank]:
            self.make_bank(bank)
        self.banks[bank][at & 65535] = byte

    def tell_many(self, at, n):
        """The n bytes from a place on."""
        return [self.tell(place) for place in range(at, at + n)]

    def put_many(self, at, handed):
        """Writes bytes from a place on."""
        for place, byte in enumerate(handed, start=at):
            self.put(place, byte)
