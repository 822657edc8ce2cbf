"""Random machines and programs, done by the program and by a second, slow machine that shares nothing with it."""

import random
import unittest

from sixteenbits.machine import answers
from tests.helper import BEGIN, GET_ALL, INSTRUCTIONS, REGISTERS, WHY, ask, joined, load, look, put, run, split

INDEXES = {"X": "x", "Y": "y"}
BRANCHES = {"BPL": "N0", "BMI": "N1", "BVC": "V0", "BVS": "V1", "BCC": "C0", "BCS": "C1", "BNE": "Z0", "BEQ": "Z1"}
TURNED = {"CLC": "C0", "SEC": "C1", "CLI": "I0", "SEI": "I1", "CLD": "D0", "SED": "D1", "CLV": "V0"}
WEIGHTS = {"N": 128, "V": 64, "M": 32, "X": 16, "D": 8, "I": 4, "Z": 2, "C": 1}


class Model:
    """The machine once more, with a flag a name and memory a dict of what was written."""

    def __init__(self):
        self.r = dict.fromkeys("axyds", 0)
        self.r.update(s=0x1FF, pc=0, pb=0, db=0)
        self.f = dict.fromkeys("NVDZC", 0)
        self.f.update(M=1, X=1, I=1)
        self.e, self.waits, self.stops, self.nmi, self.irq, self.why = 1, 0, 0, 0, 0, 0
        self.m = {}

    # Registers and flags.
    def told(self):
        r = self.r
        return [r["a"], r["x"], r["y"], r["d"], r["s"], r["pc"], r["pb"], r["db"], self.flag_byte(), self.e]

    def flag_byte(self):
        return sum(WEIGHTS[name] * value for name, value in self.f.items())

    def settle(self):
        if self.e:
            self.f["M"] = self.f["X"] = 1
            self.r["s"] = 0x100 + self.r["s"] % 256
        if self.f["X"]:
            self.r["x"] %= 256
            self.r["y"] %= 256

    def set_flag_byte(self, byte):
        for name, weight in WEIGHTS.items():
            self.f[name] = byte // weight % 2
        self.settle()

    def set_register(self, which, value):
        name = REGISTERS[which]
        if name == "flags":
            self.set_flag_byte(value % 256)
        elif name == "e":
            self.e = value % 2
        else:
            self.r[name] = value % (256 if name in ("pb", "db") else 65536)
        self.settle()

    def wide_a(self):
        return 1 if self.f["M"] else 2

    def wide_x(self):
        return 1 if self.f["X"] else 2

    def nz(self, number, wide):
        number %= 256 ** wide
        self.f["N"] = int(2 * number >= 256 ** wide)
        self.f["Z"] = int(number == 0)
        return number

    def into_a(self, number):
        wide = self.wide_a()
        number = self.nz(number, wide)
        self.r["a"] = number if wide == 2 else self.r["a"] // 256 * 256 + number

    # Memory, the program's bytes, the stack.
    def read(self, places):
        return sum(self.m.get(place, 0) * 256 ** k for k, place in enumerate(places))

    def write(self, places, number):
        for place in places:
            self.m[place] = number % 256
            number //= 256

    def low(self, at, wide):
        return [(at + k) % 65536 for k in range(wide)]

    def anywhere(self, at, wide):
        return [(at + k) % 2 ** 24 for k in range(wide)]

    def code(self, wide):
        places = [self.r["pb"] * 65536 + (self.r["pc"] + k) % 65536 for k in range(wide)]
        self.r["pc"] = (self.r["pc"] + wide) % 65536
        return places

    def take(self, wide):
        return self.read(self.code(wide))

    def push(self, number, wide):
        for k in reversed(range(wide)):
            self.m[self.r["s"]] = number // 256 ** k % 256
            self.r["s"] = (self.r["s"] - 1) % 65536
            self.settle()

    def pull(self, wide):
        number = 0
        for k in range(wide):
            self.r["s"] = (self.r["s"] + 1) % 65536
            self.settle()
            number += self.m.get(self.r["s"], 0) * 256 ** k
        return number

    # Places.
    def places(self, kind, wide):
        r = self.r
        if kind in ("im", "ix"):
            return self.code(wide)
        if kind[0] in "ds":
            start = (r["d"] if kind[0] == "d" else r["s"]) + self.take(1)
            if kind in ("d", "sr"):
                return self.low(start, wide)
            if kind in ("dx", "dy"):
                return self.low(start + r[kind[1]], wide)
            if kind == "dix":
                start += r["x"]
            if kind in ("dl", "dly"):
                at = self.read(self.low(start, 3))
            else:
                at = r["db"] * 65536 + self.read(self.low(start, 2))
            return self.anywhere(at + (r["y"] if kind.endswith("y") else 0), wide)
        at = self.take(3) if kind.startswith("al") else r["db"] * 65536 + self.take(2)
        return self.anywhere(at + (r[kind[-1]] if kind[-1] in "xy" else 0), wide)

    # Steps.
    def run(self, n):
        done = 0
        self.why = 0
        while done < n:
            if self.stops:
                self.why = 2
                break
            if self.nmi:
                self.nmi = self.waits = 0
                self.interrupt(0xFFEA, 0xFFFA, True)
            elif self.irq and not self.f["I"]:
                self.waits = 0
                self.interrupt(0xFFEE, 0xFFFE, True)
            elif self.waits and not self.irq:
                self.why = 1
                break
            else:
                self.waits = 0
                self.instruction()
            done += 1
        return done

    def interrupt(self, vector, old_vector, outside):
        if not self.e:
            self.push(self.r["pb"], 1)
        self.push(self.r["pc"], 2)
        self.push(self.flag_byte() - (16 if self.e and outside else 0), 1)
        self.f.update(I=1, D=0)
        self.r["pb"] = 0
        self.r["pc"] = self.read(self.low(old_vector if self.e else vector, 2))

    def instruction(self):
        name, blank, kind = INSTRUCTIONS[self.take(1)].partition(" ")
        if name in BRANCHES or name in ("BRA", "BRL", "PER"):
            self.relative(name, kind)
        elif name[0] == "J":
            self.jump(name, kind)
        elif name in TURNED:
            self.f[TURNED[name][0]] = int(TURNED[name][1])
        elif name[:2] in ("PH", "PL") or name in ("PEA", "PEI"):
            self.stack(name)
        elif name[0] == "T" and not kind:
            self.transfer(name)
        elif name in ("MVN", "MVP"):
            self.move(1 if name == "MVN" else -1)
        elif kind not in ("", "A", "i8"):
            self.with_place(name, kind)
        elif kind == "A":
            self.into_a(self.changed(name, self.r["a"] % 256 ** self.wide_a()))
        else:
            self.other(name)

    def relative(self, name, kind):
        r = self.r
        away = self.take(2) if kind == "rl" else (self.take(1) + 128) % 256 - 128
        there = (r["pc"] + away) % 65536
        if name == "PER":
            self.push(there, 2)
        elif name not in BRANCHES or self.f[BRANCHES[name][0]] == int(BRANCHES[name][1]):
            r["pc"] = there

    def jump(self, name, kind):
        r = self.r
        there = self.take(3 if kind == "al" else 2)
        if kind == "ai":
            there = self.read(self.low(there, 2))
        if kind == "al2":
            there = self.read(self.low(there, 3))
        if kind == "aix":
            there = self.read([r["pb"] * 65536 + (there + r["x"] + k) % 65536 for k in range(2)])
        if name == "JSL":
            self.push(r["pb"], 1)
        if name[:2] == "JS":
            self.push((r["pc"] - 1) % 65536, 2)
        r["pc"] = there % 65536
        if kind in ("al", "al2"):
            r["pb"] = there // 65536

    def stack(self, name):
        r = self.r
        if name == "PEA":
            self.push(self.take(2), 2)
        elif name == "PEI":
            self.push(self.read(self.places("d", 2)), 2)
        elif name[:2] == "PH":
            number, wide = {
                "A": (r["a"], self.wide_a()), "X": (r["x"], self.wide_x()), "Y": (r["y"], self.wide_x()),
                "P": (self.flag_byte(), 1), "D": (r["d"], 2), "B": (r["db"], 1), "K": (r["pb"], 1)}[name[2]]
            self.push(number, wide)
        elif name == "PLP":
            self.set_flag_byte(self.pull(1))
        elif name == "PLA":
            self.into_a(self.pull(self.wide_a()))
        else:
            wide = {"X": self.wide_x(), "Y": self.wide_x(), "D": 2, "B": 1}[name[2]]
            r[{"X": "x", "Y": "y", "D": "d", "B": "db"}[name[2]]] = self.nz(self.pull(wide), wide)

    def transfer(self, name):
        r = self.r
        source, target = name[1].lower(), name[2].lower()
        number = r["a" if source == "c" else source]
        if target == "s":
            r["s"] = number
            self.settle()
        elif "C" in name:
            r["a" if target == "c" else target] = self.nz(number, 2)
        elif target == "a":
            self.into_a(number)
        else:
            r[target] = self.nz(number, self.wide_x())

    def move(self, more):
        r = self.r
        start = (r["pc"] - 1) % 65536
        bank_to, bank_from = self.take(1), self.take(1)
        self.m[bank_to * 65536 + r["y"]] = self.m.get(bank_from * 65536 + r["x"], 0)
        for index in "xy":
            r[index] = (r[index] + more) % 256 ** self.wide_x()
        r["db"] = bank_to
        if r["a"] != 0:
            r["pc"] = start
        r["a"] = (r["a"] - 1) % 65536

    def with_place(self, name, kind):
        index = INDEXES.get(name[2]) if name[:2] in ("LD", "ST", "CP") else None
        wide = self.wide_x() if index else self.wide_a()
        places = self.places(kind, wide)
        number = self.read(places)
        mine = self.r[index or "a"] % 256 ** wide
        if name[:2] == "LD":
            if index:
                self.r[index] = self.nz(number, wide)
            else:
                self.into_a(number)
        elif name[:2] == "ST":
            self.write(places, 0 if name == "STZ" else mine)
        elif name in ("CMP", "CPX", "CPY"):
            self.f["C"] = int(mine >= number)
            self.nz(mine - number, wide)
        elif name in ("ORA", "AND", "EOR"):
            self.into_a({"ORA": mine | number, "AND": mine & number, "EOR": mine ^ number}[name])
        elif name in ("ADC", "SBC"):
            self.add(name, mine, number, wide)
        elif name in ("BIT", "TSB", "TRB"):
            self.f["Z"] = int(mine & number == 0)
            if name == "BIT" and kind != "im":
                self.f["N"], self.f["V"] = number // (256 ** wide // 2), number // (256 ** wide // 4) % 2
            if name == "TSB":
                self.write(places, number | mine)
            if name == "TRB":
                self.write(places, number - (number & mine))
        else:
            self.write(places, self.changed(name, number))

    def changed(self, name, number):
        wide = self.wide_a()
        all_of = 256 ** wide
        carry = self.f["C"] if name[:2] == "RO" else 0
        if name in ("ASL", "ROL"):
            self.f["C"] = 2 * number // all_of
            return self.nz(2 * number + carry, wide)
        if name in ("LSR", "ROR"):
            self.f["C"] = number % 2
            return self.nz(number // 2 + carry * all_of // 2, wide)
        return self.nz(number + {"INC": 1, "DEC": -1}[name], wide)

    def add(self, name, mine, number, wide):
        sign = 1 if name == "ADC" else -1
        half = 256 ** wide // 2
        over = self.f["C"] if sign == 1 else 1 - self.f["C"]
        binary = mine + sign * (number + over)
        signed = [value - 2 * half * (value >= half) for value in (mine, number, binary % (2 * half))]
        if sign == 1:
            self.f["V"] = int((signed[0] < 0) == (signed[1] < 0) != (signed[2] < 0))
        else:
            self.f["V"] = int((signed[0] < 0) != (signed[1] < 0) and (signed[2] < 0) != (signed[0] < 0))
        out = binary % (2 * half)
        over_out = int(binary != out)
        if self.f["D"]:
            out, over_out = 0, over
            for k in range(2 * wide):
                digit = mine // 16 ** k % 16 + sign * (number // 16 ** k % 16 + over_out)
                over_out = int(digit > 9 if sign == 1 else digit < 0)
                digit += over_out * (6 if sign == 1 else 10)
                out += digit % 16 * 16 ** k
        self.f["C"] = over_out if sign == 1 else 1 - over_out
        self.into_a(out)

    def other(self, name):
        r = self.r
        if name in ("INX", "INY", "DEX", "DEY"):
            index = INDEXES[name[2]]
            r[index] = self.nz(r[index] + (1 if name[0] == "I" else -1), self.wide_x())
        elif name in ("BRK", "COP"):
            self.take(1)
            self.interrupt(*((0xFFE6, 0xFFFE) if name == "BRK" else (0xFFE4, 0xFFF4)), False)
        elif name in ("REP", "SEP"):
            byte = self.take(1)
            self.set_flag_byte(self.flag_byte() | byte if name == "SEP" else self.flag_byte() & 255 - byte)
        elif name in ("RTS", "RTL"):
            r["pc"] = (self.pull(2) + 1) % 65536
            if name == "RTL":
                r["pb"] = self.pull(1)
        elif name == "RTI":
            self.set_flag_byte(self.pull(1))
            r["pc"] = self.pull(2)
            if not self.e:
                r["pb"] = self.pull(1)
        elif name == "XBA":
            r["a"] = r["a"] % 256 * 256 + r["a"] // 256
            self.nz(r["a"], 1)
        elif name == "XCE":
            self.f["C"], self.e = self.e, self.f["C"]
            self.settle()
        elif name == "WDM":
            self.take(1)
        elif name == "WAI":
            self.waits = 1
        elif name == "STP":
            self.stops = 1
        elif name != "NOP":
            raise AssertionError(name)


EDGES = (0, 1, 0x7F, 0x80, 0xFF, 0x100, 0x1FF, 0x7FFF, 0x8000, 0xFF00, 0xFFFD, 0xFFFE, 0xFFFF)
BANKS = (0, 0, 0, 1, 2, 0xFE, 0xFF)


class Trial:
    """One random list of calls, with what the model answers to each of them."""

    def __init__(self, seed, opcodes=None):
        self.random = random.Random(seed)
        self.opcodes = opcodes
        self.model = Model()
        self.calls = [BEGIN]
        self.asked = [[0]]

    def word(self):
        chance = self.random
        return chance.choice(EDGES) if chance.random() < 0.5 else chance.randrange(65536)

    def byte(self):
        chance = self.random
        return chance.choice((0, 1, 0x7F, 0x80, 0xFF)) if chance.random() < 0.3 else chance.randrange(256)

    def call(self, call, answer):
        self.calls.append(call)
        self.asked.append(answer)

    def put_code(self):
        model = self.model
        first = self.random.choice(self.opcodes) if self.opcodes else self.random.randrange(256)
        self.put_bytes(model.code(1), [first])
        model.r["pc"] = (model.r["pc"] - 1) % 65536

    def put_bytes(self, places, data):
        for place, byte in zip(places, data):
            self.call(load(place, [byte]), [0])
            self.model.m[place] = byte

    def put_registers(self):
        for which in (9, 8, 0, 1, 2, 3, 4, 5, 6, 7):
            value = {
                9: int(self.random.random() < 0.3), 8: self.byte(),
                6: self.random.choice(BANKS), 7: self.random.choice(BANKS)}.get(which, self.word())
            self.call(put(which, value + self.random.choice((0, 65536)) * (which != 9)), [0])
            self.model.set_register(which, value)

    def put_noise(self):
        """Random bytes where edges are: the ends of banks, and the page that S and D often point to."""
        for at in (0, 0xFF00, 0x1FF00, 0x20000, 0xFDFF00, 0xFFFF00, 0xFEFF00):
            data = [self.byte() for number in range(512 if at + 512 <= 2 ** 24 else 256)]
            self.call(load(at, data), [0])
            self.model.m.update({at + number: byte for number, byte in enumerate(data)})

    def ask_something(self):
        k = self.random.randrange(6)
        self.call(ask(k), [0] if k < 4 else [-1])
        model = self.model
        if k == 0:
            model.e, model.waits, model.stops, model.nmi = 1, 0, 0, 0
            model.settle()
            model.f.update(I=1, D=0)
            model.r.update(d=0, db=0, pb=0, pc=model.read(model.low(0xFFFC, 2)))
        elif k == 1:
            model.nmi = 1
        elif k < 4:
            model.irq = int(k == 2)

    def go(self, n):
        self.call(run(n), [self.model.run(n)])
        self.call(WHY, [self.model.why])
        for which, value in enumerate(self.model.told()):
            self.calls.append(GET_ALL[4 * which:4 * which + 4])
            self.asked.append([value])

    def look_around(self):
        """All of what was ever written, as long as there are calls left."""
        places = sorted(self.model.m)
        spans = []
        for place in places:
            if spans and place - spans[-1][1] < 300 and place - spans[-1][0] < 65000:
                spans[-1][1] = place
            else:
                spans.append([place, place])
        for first, last in spans[:300 - len(self.calls)]:
            n = last - first + 1
            self.call(look(first, n), [0] + [self.model.m.get(first + k, 0) for k in range(n)])

    def differs(self):
        told = split(answers(joined(*self.calls)))
        for number, (call, one, other) in enumerate(zip(self.calls, told, self.asked)):
            if one != other:
                return f"call {number}, {call[:6]}: {one[:12]}, not {other[:12]}"
        return None


class ModelTest(unittest.TestCase):
    def test_each_first_byte(self):
        for first in range(256):
            for seed in range(6):
                trial = Trial(first * 1000 + seed, [first])
                trial.put_noise()
                for part in range(10):
                    trial.put_registers()
                    trial.put_code()
                    trial.go(1)
                trial.look_around()
                self.assertIsNone(trial.differs(), f"{INSTRUCTIONS[first]}, seed {seed}")

    def test_long_runs(self):
        for seed in range(120):
            trial = Trial(seed)
            trial.put_noise()
            for part in range(8):
                trial.put_registers()
                trial.go(trial.random.choice((0, 1, 2, 10, 300)))
                trial.ask_something()
                trial.go(trial.random.choice((1, 2, 5)))
            trial.look_around()
            self.assertIsNone(trial.differs(), f"seed {seed}")


if __name__ == "__main__":
    unittest.main()
