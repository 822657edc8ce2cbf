"""All instructions by their first byte: what each does, and how it finds its number's place."""

from sixteenbits.interrupts import INTERRUPTS
from sixteenbits.jumps import JUMPS
from sixteenbits.loads import LOADS
from sixteenbits.moves import MOVES
from sixteenbits.places import PLACES
from sixteenbits.shifts import COUNTS, SHIFTS
from sixteenbits.stack import STACK, STACK_AT_PLACES
from sixteenbits.sums import SUMS
from sixteenbits.transfers import TRANSFERS

ROWS = (
    "BRK i8, ORA dix, COP i8, ORA sr, TSB d, ORA d, ASL d, ORA dl",
    "PHP, ORA im, ASL A, PHD, TSB a, ORA a, ASL a, ORA al",
    "BPL r, ORA diy, ORA di, ORA siy, TRB d, ORA dx, ASL dx, ORA dly",
    "CLC, ORA ay, INC A, TCS, TRB a, ORA ax, ASL ax, ORA alx",
    "JSR a, AND dix, JSL al, AND sr, BIT d, AND d, ROL d, AND dl",
    "PLP, AND im, ROL A, PLD, BIT a, AND a, ROL a, AND al",
    "BMI r, AND diy, AND di, AND siy, BIT dx, AND dx, ROL dx, AND dly",
    "SEC, AND ay, DEC A, TSC, BIT ax, AND ax, ROL ax, AND alx",
    "RTI, EOR dix, WDM i8, EOR sr, MVP b, EOR d, LSR d, EOR dl",
    "PHA, EOR im, LSR A, PHK, JMP a, EOR a, LSR a, EOR al",
    "BVC r, EOR diy, EOR di, EOR siy, MVN b, EOR dx, LSR dx, EOR dly",
    "CLI, EOR ay, PHY, TCD, JML al, EOR ax, LSR ax, EOR alx",
    "RTS, ADC dix, PER rl, ADC sr, STZ d, ADC d, ROR d, ADC dl",
    "PLA, ADC im, ROR A, RTL, JMP ai, ADC a, ROR a, ADC al",
    "BVS r, ADC diy, ADC di, ADC siy, STZ dx, ADC dx, ROR dx, ADC dly",
    "SEI, ADC ay, PLY, TDC, JMP aix, ADC ax, ROR ax, ADC alx",
    "BRA r, STA dix, BRL rl, STA sr, STY d, STA d, STX d, STA dl",
    "DEY, BIT im, TXA, PHB, STY a, STA a, STX a, STA al",
    "BCC r, STA diy, STA di, STA siy, STY dx, STA dx, STX dy, STA dly",
    "TYA, STA ay, TXS, TXY, STZ a, STA ax, STZ ax, STA alx",
    "LDY ix, LDA dix, LDX ix, LDA sr, LDY d, LDA d, LDX d, LDA dl",
    "TAY, LDA im, TAX, PLB, LDY a, LDA a, LDX a, LDA al",
    "BCS r, LDA diy, LDA di, LDA siy, LDY dx, LDA dx, LDX dy, LDA dly",
    "CLV, LDA ay, TSX, TYX, LDY ax, LDA ax, LDX ay, LDA alx",
    "CPY ix, CMP dix, REP i8, CMP sr, CPY d, CMP d, DEC d, CMP dl",
    "INY, CMP im, DEX, WAI, CPY a, CMP a, DEC a, CMP al",
    "BNE r, CMP diy, CMP di, CMP siy, PEI d, CMP dx, DEC dx, CMP dly",
    "CLD, CMP ay, PHX, STP, JML al2, CMP ax, DEC ax, CMP alx",
    "CPX ix, SBC dix, SEP i8, SBC sr, CPX d, SBC d, INC d, SBC dl",
    "INX, SBC im, NOP, XBA, CPX a, SBC a, INC a, SBC al",
    "BEQ r, SBC diy, SBC di, SBC siy, PEA w, SBC dx, INC dx, SBC dly",
    "SED, SBC ay, PLX, XCE, JSR aix, SBC ax, INC ax, SBC alx",
)


def operations_at_places():
    """What is done with a number that lies somewhere, by the instruction's name."""
    found = dict(LOADS)
    found.update(dict(SUMS))
    found.update(dict(SHIFTS))
    found.update(dict(STACK_AT_PLACES))
    return found


def operations_alone():
    """What the other instructions do, which read what is behind the first byte themselves, by their whole text."""
    found = dict(TRANSFERS)
    found.update(dict(COUNTS))
    found.update(dict(STACK))
    found.update(dict(JUMPS))
    found.update(dict(INTERRUPTS))
    found.update(dict(MOVES))
    return found


class Instructions:
    """For each first byte what is done, and the function that finds the place, or None."""

    def __init__(self):
        self.operations = []
        self.places = []
        at_places = operations_at_places()
        alone = operations_alone()
        for row in ROWS:
            for text in row.split(", "):
                if text in alone:
                    self.operations.append(alone[text])
                    self.places.append(None)
                else:
                    self.append_at_place(at_places, text)

    def append_at_place(self, at_places, text):
        """One more instruction whose number lies somewhere."""
        words = text.split(" ")
        # BIT im has its own meaning; all others do the same at every place.
        self.operations.append(at_places[text] if text in at_places else at_places[words[0]])
        self.places.append(PLACES[words[1]])
