"""The machine's memory: 2^24 bytes, all 0 to begin with."""

MEMORY_SIZE = 16777216
PAGE_SIZE = 256


class Memory:
    """Bytes by their place."""

    def __init__(self):
        # A page is made when it is first written: making all of memory for each cpu_begin would take long.
        self.pages = {}

    def tell(self, at):
        """The byte at a place."""
        page = self.pages.get(at // PAGE_SIZE)
        if page is None:
            return 0
        return page[at % PAGE_SIZE]

    def put(self, at, byte):
        """Writes a byte at a place."""
        number = at // PAGE_SIZE
        if number not in self.pages:
            self.pages[number] = [0] * PAGE_SIZE
        self.pages[number][at % PAGE_SIZE] = byte

    def tell_many(self, at, n):
        """The n bytes from a place on."""
        return [self.tell(place) for place in range(at, at + n)]

    def put_many(self, at, handed):
        """Writes bytes from a place on."""
        for place, byte in enumerate(handed, start=at):
            self.put(place, byte)
