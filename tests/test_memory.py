"""Promise 2: cpu_load and cpu_look."""

import unittest

from sixteenbits.cpu import Cpu
from sixteenbits.machine import answers, cpu_load, cpu_look
from tests.helper import BEGIN, GREATEST, MEMORY, joined, load, load_without_list, look, same, told_by


class LoadAndLookTest(unittest.TestCase):
    def test_told_as_written(self):
        self.assertEqual(told_by(load(1000, [1, 2, 255, 0, 128]), look(1000, 5)), [[0], [0, 1, 2, 255, 0, 128]])

    def test_what_was_not_written_is_as_it_was(self):
        told = told_by(load(100, [9] * 10), load(103, [1, 2]), look(98, 14))
        self.assertEqual(told[2], [0, 0, 0, 9, 9, 9, 1, 2, 9, 9, 9, 9, 9, 0, 0])

    def test_each_place_is_one_of_its_own(self):
        places = [5] + [5 + 2 ** power for power in range(3, 24)]
        loads = [load(at, [number + 1]) for number, at in enumerate(places)]
        told = told_by(*loads, *[look(at, 1) for at in places])
        self.assertEqual(told[len(places):], [[0, number + 1] for number in range(len(places))])

    def test_every_byte_is_told(self):
        every = list(range(256))
        self.assertEqual(told_by(load(77, every), look(77, 256)), [[0], [0] + every])

    def test_over_the_ends_of_pages_and_banks(self):
        for end in (256, 65536, 0x10000 * 0x80):
            told = told_by(load(end - 3, [1, 2, 3, 4, 5, 6]), look(end - 4, 8), look(end, 1))
            self.assertEqual(told, [[0], [0, 0, 1, 2, 3, 4, 5, 6, 0], [0, 4]])

    def test_as_many_bytes_as_may_be_handed_in(self):
        data = [number * 7 % 256 for number in range(29000)]
        told = told_by(load(65000, data), look(64999, 29002))
        same(told, [[0], [0, 0] + data + [0]])

    def test_no_bytes(self):
        for at in (0, 500, MEMORY - 1, MEMORY):
            told = told_by(load(500, [4]), load(at, []), look(at, 0), look(499, 3))
            self.assertEqual(told, [[0], [0], [0], [0, 0, 4, 0]])

    def test_no_bytes_beyond_memory(self):
        for at in (MEMORY + 1, GREATEST):
            self.assertEqual(told_by(load(at, []), look(at, 0)), [[-1], [-1]])


class SizeTest(unittest.TestCase):
    def test_look_65536(self):
        told = told_by(load(70000, [3] * 20000), look(65000, 65536))
        same(told[1], [0] + [0] * 5000 + [3] * 20000 + [0] * 40536)

    def test_load_65536(self):
        data = [number % 251 for number in range(65536)]
        cpu = Cpu()
        self.assertEqual(cpu_load(cpu, 12345, 65536, [data]), [0])
        same(cpu_look(cpu, 12345, 65536), [0] + data)
        self.assertEqual(cpu_look(cpu, 12344, 1) + cpu_look(cpu, 12345 + 65536, 1), [0, 0, 0, 0])

    def test_above_65536_is_refused(self):
        for n in (65537, 65538, 131072, MEMORY, MEMORY + 1, GREATEST):
            told = told_by(load(0, [6, 5]), load_without_list(0, n), look(0, n), look(0, 3))
            self.assertEqual(told, [[0], [-1], [-1], [0, 6, 5, 0]])

    def test_a_refusal_is_its_number_alone(self):
        calls = joined(BEGIN, load_without_list(0, 65537), look(0, 65537), load(MEMORY, [1]), look(MEMORY, 1))
        self.assertEqual(answers(calls), [1, 0] + [1, -1] * 4)


class EndOfMemoryTest(unittest.TestCase):
    def test_first_and_last_byte(self):
        told = told_by(load(0, [11]), load(MEMORY - 1, [22]), look(0, 2), look(MEMORY - 2, 2))
        self.assertEqual(told, [[0], [0], [0, 11, 0], [0, 0, 22]])

    def test_just_to_the_end(self):
        self.assertEqual(told_by(load(MEMORY - 3, [1, 2, 3]), look(MEMORY - 4, 4)), [[0], [0, 0, 1, 2, 3]])
        same(told_by(look(MEMORY - 65536, 65536)), [[0] * 65537])

    def test_one_beyond_the_end(self):
        told = told_by(
            load(MEMORY - 3, [1, 2, 3]), load(0, [7]),
            load(MEMORY - 3, [4, 5, 6, 8]), look(MEMORY - 3, 4),
            look(MEMORY - 3, 3), look(0, 2))
        self.assertEqual(told, [[0], [0], [-1], [-1], [0, 1, 2, 3], [0, 7, 0]])

    def test_one_beyond_the_end_with_65536(self):
        self.assertEqual(told_by(look(MEMORY - 65535, 65536)), [[-1]])
        cpu = Cpu()
        self.assertEqual(cpu_load(cpu, MEMORY - 65535, 65536, [[1] * 65536]), [-1])
        same(cpu_look(cpu, MEMORY - 65535, 65535), [0] * 65536)

    def test_behind_memory(self):
        for at in (MEMORY, MEMORY + 1, MEMORY + 500, 2 * MEMORY, 2 ** 31, 2 ** 32 - MEMORY, GREATEST):
            told = told_by(load(at, [9]), look(at, 1), look(at % MEMORY, 1))
            self.assertEqual(told, [[-1], [-1], [0, 0]])

    def test_the_greatest_numbers(self):
        told = told_by(
            load(0, [5]), load_without_list(GREATEST, GREATEST), look(GREATEST, GREATEST),
            look(GREATEST, 2), look(0, GREATEST), look(0, 2), look(MEMORY - 1, 1))
        self.assertEqual(told, [[0], [-1], [-1], [-1], [-1], [0, 5, 0], [0, 0]])
