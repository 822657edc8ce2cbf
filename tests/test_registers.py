"""Promise 6: cpu_get and cpu_set."""

import unittest

from sixteenbits.machine import answers
from tests.helper import BEGIN, GET_ALL, GREATEST, REGISTERS, C, DF, I, M, N, V, XF, Z, get, joined, look, put, put_all
from tests.helper import split, told_by

OTHERS = (10, 11, 12, 255, 256, 265, 65536, 2 ** 16 + 1, 2 ** 31, 2 ** 32 - 1, GREATEST)
BITS = {"a": 16, "x": 16, "y": 16, "d": 16, "s": 16, "pc": 16, "pb": 8, "db": 8, "flags": 8}
NATIVE = {"e": 0, "flags": 0}


def registers(*calls):
    """All registers behind the calls."""
    told = told_by(*calls, GET_ALL)[-10:]
    return dict(zip(REGISTERS, [answer[0] for answer in told]))


def changed(before, name, value):
    """What a cpu_set changes, by its register's name."""
    was = registers(put_all(**before))
    now = registers(put_all(**before), put(name, value))
    return {each: now[each] for each in REGISTERS if now[each] != was[each]}


class GetTest(unittest.TestCase):
    def test_new_machine(self):
        self.assertEqual(answers(joined(BEGIN, GET_ALL)), joined(
            [1, 0], [1, 0], [1, 0], [1, 0], [1, 0], [1, 0x1FF], [1, 0], [1, 0], [1, 0], [1, 52], [1, 1]))

    def test_by_number(self):
        told = told_by(
            put(9, 0), put(8, 0), put(0, 0x1111), put(1, 0x2222), put(2, 0x3333), put(3, 0x4444), put(4, 0x5555),
            put(5, 0x6666), put(6, 0x77), put(7, 0x88), *[get(which) for which in range(10)])
        self.assertEqual(told, [[0]] * 10 + [
            [0x1111], [0x2222], [0x3333], [0x4444], [0x5555], [0x6666], [0x77], [0x88], [0], [0]])

    def test_others_are_refused(self):
        for which in OTHERS:
            self.assertEqual(answers(joined(BEGIN, get(which))), [1, 0, 1, -1])

    def test_changes_nothing(self):
        before = {"e": 0, "flags": 0xCF, "a": 1, "x": 2, "y": 3, "d": 4, "s": 5, "pc": 6, "pb": 7, "db": 8}
        for which in (*range(10), *OTHERS):
            self.assertEqual(registers(put_all(**before), get(which)), before)

    def test_whole_numbers_alone(self):
        for e in (0, 1):
            for number in answers(joined(BEGIN, put("e", e), GET_ALL)):
                self.assertIs(type(number), int)


class SetTest(unittest.TestCase):
    def test_each_alone(self):
        for name, bits in BITS.items():
            for value in (0, 1, 2 ** (bits - 1) - 1, 2 ** (bits - 1), 2 ** bits - 2, 2 ** bits - 1):
                before = {**NATIVE, name: 5}
                value_told = registers(put_all(**before), put(name, value))[name]
                self.assertEqual(value_told, value)
                self.assertLessEqual(set(changed(before, name, value)), {name})

    def test_of_more_bits_the_lower_ones(self):
        for name, bits in BITS.items():
            for value in (2 ** bits, 2 ** bits + 1, 2 ** (bits + 1) - 1, 2 ** 31, 2 ** 32 - 2 ** bits + 3, GREATEST):
                now = registers(put_all(**NATIVE), put(name, value))
                self.assertEqual(now[name], value % 2 ** bits, (name, value))

    def test_emulation_is_one_bit(self):
        for value in (0, 1, 2, 3, 256, 257, 2 ** 31, GREATEST - 1, GREATEST):
            for before in (0, 1):
                self.assertEqual(registers(put("e", before), put("e", value))["e"], value % 2)

    def test_others_are_refused_and_nothing_done(self):
        before = {"e": 0, "flags": 0xCF, "a": 1, "x": 2, "y": 3, "d": 4, "s": 5, "pc": 6, "pb": 7, "db": 8}
        for which in OTHERS:
            for value in (0, 1, 0xFFFF, GREATEST):
                self.assertEqual(answers(joined(BEGIN, put(which, value))), [1, 0, 1, -1])
                self.assertEqual(registers(put_all(**before), put(which, value)), before)

    def test_memory_stays(self):
        told = told_by(*[put(which, 0x1FF) for which in range(10)], look(0, 1024))
        self.assertEqual(told[-1], [0] * 1025)

    def test_no_flags_by_what_is_set(self):
        for flags in (0, N | Z, N | V | Z | C | DF | I):
            for name in ("a", "x", "y", "d", "s", "pc", "pb", "db"):
                for value in (0, 0x80, 0x8000, 0xFFFF):
                    self.assertEqual(registers(put_all(e=0, flags=flags), put(name, value))["flags"], flags)


class WidthTest(unittest.TestCase):
    """What setting one does to others, as an instruction would."""

    FULL = {"e": 0, "flags": 0, "a": 0x1234, "x": 0x5678, "y": 0x9ABC, "s": 0xDEF0, "d": 0x1111, "pc": 0x2222}

    def test_all_of_a_though_it_is_narrow(self):
        self.assertEqual(registers(put_all(e=0, flags=M), put("a", 0xABCD))["a"], 0xABCD)
        self.assertEqual(registers(put("a", 0xABCD))["a"], 0xABCD)

    def test_narrow_indexes(self):
        for before in ({"e": 0, "flags": XF}, {"e": 1, "flags": 0}):
            for name in ("x", "y"):
                self.assertEqual(changed(before, name, 0xABCD), {name: 0xCD})
                self.assertEqual(changed(before, name, 0xFF00), {})

    def test_indexes_beside_a_narrow_a(self):
        for name in ("x", "y"):
            self.assertEqual(changed({"e": 0, "flags": M}, name, 0xABCD), {name: 0xABCD})

    def test_s_in_emulation(self):
        for value, s in ((0, 0x100), (0xFF, 0x1FF), (0x100, 0x100), (0x200, 0x100), (0xABCD, 0x1CD), (GREATEST, 0x1FF)):
            self.assertEqual(registers(put("s", value))["s"], s)

    def test_flags_out_of_emulation(self):
        for flags in range(256):
            now = registers(put_all(**self.FULL), put("flags", flags))
            asked = {**self.FULL, "flags": flags, "pb": 0, "db": 0}
            if flags & XF:
                asked.update(x=0x78, y=0xBC)
            self.assertEqual(now, asked)

    def test_flags_in_emulation(self):
        for flags in range(256):
            self.assertEqual(changed({"e": 1, "flags": 0xCF}, "flags", flags).get("flags", 0xFF), flags | M | XF)

    def test_upper_bytes_do_not_come_back(self):
        now = registers(put_all(**self.FULL), put("flags", XF), put("flags", 0))
        self.assertEqual((now["x"], now["y"], now["flags"]), (0x78, 0xBC, 0))

    def test_into_emulation(self):
        self.assertEqual(changed(self.FULL, "e", 1), {"e": 1, "flags": M | XF, "x": 0x78, "y": 0xBC, "s": 0x1F0})
        self.assertEqual(
            changed({**self.FULL, "flags": N | V | DF | I | Z | C}, "e", 1),
            {"e": 1, "flags": 0xFF, "x": 0x78, "y": 0xBC, "s": 0x1F0})

    def test_out_of_emulation(self):
        for flags in (M | XF, M | XF | C, 0xFF):
            before = {"e": 1, "flags": flags, "a": 0x1234, "x": 0x56, "y": 0x78, "s": 0x1F0}
            self.assertEqual(changed(before, "e", 0), {"e": 0})

    def test_to_what_it_is(self):
        self.assertEqual(changed(self.FULL, "e", 0), {})
        self.assertEqual(changed({"e": 1, "flags": 0xFF, "x": 0x56, "s": 0x1F0}, "e", 1), {})

    def test_set_anew_behind_emulation(self):
        told = split(answers(joined(
            BEGIN, put("s", 0x1234), put("e", 0), get("s"), put("s", 0x1234), get("s"), put("x", 0x1234), get("x"),
            put("flags", 0), put("x", 0x1234), get("x"))))
        self.assertEqual([told[number] for number in (3, 5, 7, 10)], [[0x134], [0x1234], [0x34], [0x1234]])


if __name__ == "__main__":
    unittest.main()
