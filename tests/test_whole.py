"""What holds of every answer, and of the whole program."""

import builtins
import contextlib
import copy
import io
import random
import sys
import unittest
from unittest import mock

from beamstem.beams import beam
from support import (BASE, BEAM, METERS, REST, STEM, beat_of, expected, flat, many_pieces, note, random_rows, rest,
                     rows_of, spots)

TOPS = (1, 7, 7, 15, 7, 1, 1, 7, 3, 1)
CALLS = (
    (4, 4, flat([note(3, 2), note(3, -5), note(4, 1), rest(5)])),
    (6, 8, flat([note(3, 0, tie=1), note(3), note(3, 4)] * 2)),
    (4, 4, []),
    (0, 4, flat([note(4)] * 4)),
    (4, 3, flat([note(7)])),
    (4, 4, flat([note(4)] * 3)),
    (4, 4, flat([note(4, tie=1)] * 4)),
    (4, 4, flat([note(0)] * 1028)),
)


class OnlyRead(list):
    """A list that fails as soon as somebody sets about changing it."""

    def refuse(self, *args, **names):
        raise AssertionError("what was handed in is being changed")

    __setitem__ = __delitem__ = __iadd__ = __imul__ = refuse
    append = extend = insert = pop = remove = clear = sort = reverse = refuse


class WhatHolds(unittest.TestCase):

    def test_beams_stay_within_beats_and_go_over_no_rest(self):
        for count, unit, rows in many_pieces():
            got = rows_of(beam(count, unit, flat(rows))[1:])
            beats = [beat_of(count, unit, spot) for spot in spots(count, unit, rows)]
            inside = None
            for k, row in enumerate(got):
                self.assertEqual(row[BEAM] in (2, 3), inside is not None)
                if row[BEAM] == 1:
                    inside = k
                if inside is not None:
                    self.assertEqual(row[REST], 0)
                    self.assertLessEqual(row[BASE], 3)
                    self.assertEqual(beats[k], beats[inside])
                    self.assertEqual(row[STEM], got[inside][STEM])
                if row[BEAM] == 3:
                    inside = None
            self.assertIsNone(inside)

    def test_done_again_it_is_the_same(self):
        for count, unit, rows in many_pieces():
            once = beam(count, unit, flat(rows))
            self.assertEqual(beam(count, unit, once[1:]), once)

    def test_what_was_printed_does_not_matter(self):
        for count, unit, rows in many_pieces():
            bare = [row[:BEAM] + [0, 0] for row in rows]
            self.assertEqual(beam(count, unit, flat(rows)), beam(count, unit, flat(bare)))

    def test_answers_as_told(self):
        for count, unit, rows in many_pieces():
            told = expected(count, unit, rows)
            self.assertEqual(told[0], len(rows))
            self.assertEqual(beam(count, unit, flat(rows)), told)

    def test_answers_as_told_after_one_change(self):
        chance = random.Random(8)
        refused = taken = 0
        for turn in range(4000):
            count, unit = chance.choice(METERS)
            rows = random_rows(chance, min(count, 6), unit, 2)
            row = chance.choice(rows)
            where = chance.randrange(10)
            row[where] = chance.randint(0, TOPS[where])
            told = expected(min(count, 6), unit, rows)
            refused += told == [-71]
            taken += told[0] >= 0
            self.assertEqual(beam(min(count, 6), unit, flat(rows)), told)
        self.assertGreater(refused, 400)
        self.assertGreater(taken, 400)


class WholeProgram(unittest.TestCase):

    def test_what_is_handed_in_is_not_changed(self):
        for count, unit, signs in CALLS:
            kept = copy.copy(signs)
            answer = beam(count, unit, signs)
            self.assertEqual(signs, kept)
            self.assertIsNot(answer, signs)

    def test_not_for_a_while_either(self):
        for count, unit, signs in CALLS:
            self.assertEqual(beam(count, unit, OnlyRead(signs)), beam(count, unit, signs))

    def test_nothing_is_kept(self):
        first = [beam(*call) for call in CALLS]
        second = [beam(*call) for call in reversed(CALLS)]
        self.assertEqual(first, second[::-1])

    def test_an_answer_may_be_changed(self):
        for call in CALLS:
            kept = beam(*call)
            spoiled = beam(*call)
            spoiled.append(99)
            spoiled[0] = 99
            self.assertEqual(beam(*call), kept)

    def test_kinds(self):
        for call in CALLS:
            answer = beam(*call)
            self.assertIs(type(answer), list)
            self.assertEqual({type(number) for number in answer}, {int})

    def test_names_of_the_arguments(self):
        self.assertEqual(beam(count=4, unit=4, signs=flat([note(6)])), [1] + flat([note(6)]))

    def test_nothing_is_printed_read_or_imported(self):
        out, err = io.StringIO(), io.StringIO()
        broken = mock.Mock(side_effect=AssertionError("something is read or imported"))
        for call in CALLS:
            with contextlib.redirect_stdout(out), contextlib.redirect_stderr(err), \
                    mock.patch.object(builtins, "open", broken), mock.patch.object(builtins, "input", broken), \
                    mock.patch.object(builtins, "__import__", broken):
                beam(*call)
        self.assertEqual((out.getvalue(), err.getvalue()), ("", ""))

    def test_long_lists_are_gone_through_by_loops(self):
        long_calls = [(1, 1, flat([note(0, tie=1)] * 1023 + [note(0)])), (16, 1, flat([rest(0)] * 1024)),
                      (4, 4, flat([note(0)] * 1200))]
        told = [beam(*call) for call in long_calls]
        self.assertEqual([answer[0] for answer in told], [1024, 1024, -71])
        depth = 0
        frame = sys._getframe()
        while frame:
            depth += 1
            frame = frame.f_back
        old = sys.getrecursionlimit()
        sys.setrecursionlimit(depth + 60)
        try:
            again = [beam(*call) for call in long_calls]
        finally:
            sys.setrecursionlimit(old)
        self.assertEqual(again, told)


if __name__ == "__main__":
    unittest.main()
