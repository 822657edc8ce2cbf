"""Writes calls as they stand in a list, tells answers call by call, and runs short programs."""

from sixteenbits.machine import answers

MEMORY = 2 ** 24
GREATEST = 4294967295

N, V, M, XF, DF, I, Z, C = 128, 64, 32, 16, 8, 4, 2, 1

BEGIN = [0, 0, 0]
WHY = [5, 0, 0]

ROWS = (
    "BRK i8, ORA dix, COP i8, ORA sr, TSB d, ORA d, ASL d, ORA dl, "
    "PHP, ORA im, ASL A, PHD, TSB a, ORA a, ASL a, ORA al",
    "BPL r, ORA diy, ORA di, ORA siy, TRB d, ORA dx, ASL dx, ORA dly, "
    "CLC, ORA ay, INC A, TCS, TRB a, ORA ax, ASL ax, ORA alx",
    "JSR a, AND dix, JSL al, AND sr, BIT d, AND d, ROL d, AND dl, "
    "PLP, AND im, ROL A, PLD, BIT a, AND a, ROL a, AND al",
    "BMI r, AND diy, AND di, AND siy, BIT dx, AND dx, ROL dx, AND dly, "
    "SEC, AND ay, DEC A, TSC, BIT ax, AND ax, ROL ax, AND alx",
    "RTI, EOR dix, WDM i8, EOR sr, MVP b, EOR d, LSR d, EOR dl, "
    "PHA, EOR im, LSR A, PHK, JMP a, EOR a, LSR a, EOR al",
    "BVC r, EOR diy, EOR di, EOR siy, MVN b, EOR dx, LSR dx, EOR dly, "
    "CLI, EOR ay, PHY, TCD, JML al, EOR ax, LSR ax, EOR alx",
    "RTS, ADC dix, PER rl, ADC sr, STZ d, ADC d, ROR d, ADC dl, "
    "PLA, ADC im, ROR A, RTL, JMP ai, ADC a, ROR a, ADC al",
    "BVS r, ADC diy, ADC di, ADC siy, STZ dx, ADC dx, ROR dx, ADC dly, "
    "SEI, ADC ay, PLY, TDC, JMP aix, ADC ax, ROR ax, ADC alx",
    "BRA r, STA dix, BRL rl, STA sr, STY d, STA d, STX d, STA dl, "
    "DEY, BIT im, TXA, PHB, STY a, STA a, STX a, STA al",
    "BCC r, STA diy, STA di, STA siy, STY dx, STA dx, STX dy, STA dly, "
    "TYA, STA ay, TXS, TXY, STZ a, STA ax, STZ ax, STA alx",
    "LDY ix, LDA dix, LDX ix, LDA sr, LDY d, LDA d, LDX d, LDA dl, "
    "TAY, LDA im, TAX, PLB, LDY a, LDA a, LDX a, LDA al",
    "BCS r, LDA diy, LDA di, LDA siy, LDY dx, LDA dx, LDX dy, LDA dly, "
    "CLV, LDA ay, TSX, TYX, LDY ax, LDA ax, LDX ay, LDA alx",
    "CPY ix, CMP dix, REP i8, CMP sr, CPY d, CMP d, DEC d, CMP dl, "
    "INY, CMP im, DEX, WAI, CPY a, CMP a, DEC a, CMP al",
    "BNE r, CMP diy, CMP di, CMP siy, PEI d, CMP dx, DEC dx, CMP dly, "
    "CLD, CMP ay, PHX, STP, JML al2, CMP ax, DEC ax, CMP alx",
    "CPX ix, SBC dix, SEP i8, SBC sr, CPX d, SBC d, INC d, SBC dl, "
    "INX, SBC im, NOP, XBA, CPX a, SBC a, INC a, SBC al",
    "BEQ r, SBC diy, SBC di, SBC siy, PEA w, SBC dx, INC dx, SBC dly, "
    "SED, SBC ay, PLX, XCE, JSR aix, SBC ax, INC ax, SBC alx",
)
INSTRUCTIONS = [text for row in ROWS for text in row.split(", ")]

# In the order of their numbers at cpu_get and cpu_set.
REGISTERS = ("a", "x", "y", "d", "s", "pc", "pb", "db", "flags", "e")


def load(at, data):
    if not data:
        return load_without_list(at, 0)
    return [1, 2, at, len(data), 1, len(data)] + list(data)


def load_without_list(at, n):
    return [1, 2, at, n, 0]


def look(at, n):
    return [2, 2, at, n, 0]


def ask(k):
    return [3, 1, k, 0]


def run(n):
    return [4, 1, n, 0]


def get(which):
    return [6, 1, number_of(which), 0]


def put(which, value):
    return [7, 2, number_of(which), value, 0]


def number_of(which):
    return REGISTERS.index(which) if isinstance(which, str) else which


GET_ALL = [number for which in REGISTERS for number in get(which)]


def put_all(**values):
    """Sets registers; emulation and the flags first, as they decide what the others can be."""
    order = sorted(values, key=lambda name: -REGISTERS.index(name))
    return joined(*[put(name, values[name]) for name in order])


def joined(*calls):
    return [number for call in calls for number in call]


def split(told):
    """The answers, one list a call, out of what answers() gives back."""
    each = []
    at = 0
    while at < len(told):
        behind = at + 1 + told[at]
        each.append(told[at + 1:behind])
        at = behind
    return each


def same(told, asked):
    """Long lists are told apart without the comparison that unittest prints, which takes minutes for them."""
    if told != asked:
        raise AssertionError("long lists differ")


def told_by(*calls):
    """What each of the calls answers behind a cpu_begin, whose own answer is left out."""
    return split(answers(joined(BEGIN, *calls)))[1:]


class Left:
    """What a program left: steps done, registers by their names, and bytes of memory by their first places."""

    def __init__(self, done, why, registers, memory):
        self.done = done
        self.why = why
        self.registers = registers
        self.memory = memory

    def __getattr__(self, name):
        return self.registers[name]


def left_by(program, at=0x128000, memory=(), looks=(), steps=1, before=(), **registers):
    """Runs a program in a machine that is out of emulation with all flags 0, where nothing else is told.

    memory: pairs of a place and bytes. looks: pairs of a place and a count. before: calls ahead of the run.
    """
    values = {"e": 0, "flags": 0, "pb": at >> 16, "pc": at & 65535}
    values.update(registers)
    in_bank = [(at & 0xFF0000 | at + number & 65535, byte) for number, byte in enumerate(program)]
    told = told_by(
        put_all(**values), *[load(place, data) for place, data in memory],
        *[load(place, [byte]) for place, byte in in_bank], *before,
        run(steps), WHY, GET_ALL, *[look(place, n) for place, n in looks])
    told = told[-len(looks) - 12:]
    numbers = [answer[0] for answer in told[:12]]
    return Left(
        numbers[0], numbers[1], dict(zip(REGISTERS, numbers[2:])),
        {place: answer[1:] for (place, n), answer in zip(looks, told[12:])})
