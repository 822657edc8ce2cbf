"""The interface: one list of calls in, one list of answers back."""

import contextlib
import io
import sys
import unittest

from sixteenbits.machine import UnknownCall, answers
from tests.helper import BEGIN, GREATEST, MEMORY, WHY, ask, get, joined, load, load_without_list, look, put, run, split


class Untouched(list):
    """A list that can only be read."""

    def refuse(self, *args, **kwargs):
        raise AssertionError("what was handed in was changed")

    __setitem__ = __delitem__ = __iadd__ = __imul__ = refuse
    append = extend = insert = pop = remove = clear = sort = reverse = refuse


MIXED = joined(
    BEGIN, load(10, [1, 2, 3]), look(9, 5), load_without_list(0, 65537), look(MEMORY, 1), look(0, 0),
    ask(0), ask(4), load_without_list(7, 0), BEGIN, look(10, 1), ask(1), ask(2), ask(3),
    load(MEMORY - 1, [4, 4]), look(MEMORY - 1, 1), ask(GREATEST),
    # INX, INX, PHX, STP.
    BEGIN, load(0x300, [0xE8, 0xE8, 0xDA, 0xDB]), put(5, 0x10300), WHY, run(9), WHY, get(1), get(4), get(10),
    put(10, 1), run(10000001), look(0x1FE, 2), run(0), WHY, get(9), get(8))
MIXED_ANSWERS = [
    1, 0, 1, 0, 6, 0, 0, 1, 2, 3, 0, 1, -1, 1, -1, 1, 0,
    1, 0, 1, -1, 1, 0, 1, 0, 2, 0, 0, 1, 0, 1, 0, 1, 0,
    1, -1, 2, 0, 0, 1, -1,
    1, 0, 1, 0, 1, 0, 1, 0, 1, 4, 1, 2, 1, 2, 1, 0x1FE, 1, -1,
    1, -1, 1, -1, 3, 0, 0, 2, 1, 0, 1, 0, 1, 1, 1, 52]


class InterfaceTest(unittest.TestCase):
    def test_each_call_in_order_with_its_count(self):
        self.assertEqual(answers(list(MIXED)), MIXED_ANSWERS)

    def test_kinds_of_what_is_given_back(self):
        told = answers(list(MIXED))
        self.assertIs(type(told), list)
        self.assertEqual({type(number) for number in told}, {int})

    def test_bytes_that_look_like_calls(self):
        data = joined(BEGIN, ask(0), load(0, [9]), look(0, 3))
        told = split(answers(joined(BEGIN, load(50, data), look(50, len(data)))))
        self.assertEqual(told, [[0], [0], [0] + data])

    def test_a_refused_load_is_passed_with_its_bytes(self):
        calls = joined(BEGIN, load(MEMORY - 2, [0, 0, 0]), load(GREATEST, [2, 2, 0, 1, 0]), look(0, 1))
        self.assertEqual(answers(calls), [1, 0, 1, -1, 1, -1, 2, 0, 0])

    def test_what_is_handed_in_stays(self):
        handed = Untouched(MIXED)
        self.assertEqual(answers(handed), MIXED_ANSWERS)
        self.assertEqual(list(handed), MIXED)

    def test_what_is_given_back_is_a_list_of_its_own(self):
        first = answers(list(MIXED))
        first.clear()
        self.assertEqual(answers(list(MIXED)), MIXED_ANSWERS)

    def test_nothing_is_kept(self):
        reads = joined(BEGIN, look(10, 3), look(0xFFFC, 2), WHY, get(0), get(5))
        writes = joined(
            BEGIN, load(10, [1, 2, 3]), load(0xFFFC, [4, 5]), put(0, 9), put(5, 500), load(500, [0xDB]), run(5), WHY,
            ask(1), ask(2))
        first = answers(reads)
        answers(writes)
        self.assertEqual(answers(reads), first)
        self.assertEqual(first, [1, 0, 4, 0, 0, 0, 0, 3, 0, 0, 0, 1, 0, 1, 0, 1, 0])
        self.assertEqual(answers(writes), answers(writes))

    def test_nothing_is_printed_or_imported(self):
        out = io.StringIO()
        loaded = set(sys.modules)
        with contextlib.redirect_stdout(out), contextlib.redirect_stderr(out):
            answers(list(MIXED))
        self.assertEqual(out.getvalue(), "")
        self.assertEqual(set(sys.modules), loaded)

    def test_as_many_calls_as_may_be(self):
        calls = joined(BEGIN, *[load(at, [at % 256]) for at in range(298)], look(0, 298))
        told = split(answers(calls))
        self.assertEqual(len(told), 300)
        self.assertEqual(told[-1], [0] + [at % 256 for at in range(298)])

    def test_as_many_answers_as_may_be(self):
        told = answers(joined(BEGIN, *[look(0, 65536)] * 152))
        self.assertEqual(len(told), 2 + 152 * 65538)

    def test_as_many_numbers_as_may_be(self):
        # 29000 bytes of INX, and whatever calls fill the list up.
        calls = joined(BEGIN, put(9, 0), put(8, 0), load(0, [0xE8] * 29000), run(29000), get(1))
        calls += joined(*[get(1)] * ((30000 - len(calls)) // 4))
        told = split(answers(calls))
        self.assertLessEqual(len(told), 300)
        self.assertEqual(told[4:], [[29000]] * (len(told) - 4))

    def test_an_unknown_call_is_not_answered(self):
        with self.assertRaises(UnknownCall):
            answers(joined(BEGIN, [8, 0, 0]))
