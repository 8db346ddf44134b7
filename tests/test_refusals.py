import unittest

from beamstem.beams import beam
from support import ALTER, LETTER, METERS, OCTAVE, TIE, flat, note, rest


class Meter(unittest.TestCase):

    def test_counts(self):
        for count in range(256):
            for unit in (1, 2, 4, 8, 16):
                told = [0] if 1 <= count <= 16 else [-22]
                self.assertEqual(beam(count, unit, []), told, (count, unit))

    def test_units(self):
        for unit in range(256):
            for count in (1, 3, 4, 16):
                told = [0] if unit in (1, 2, 4, 8, 16) else [-22]
                self.assertEqual(beam(count, unit, []), told, (count, unit))

    def test_both_wrong(self):
        for count, unit in ((0, 0), (17, 3), (255, 255), (0, 4), (4, 0)):
            self.assertEqual(beam(count, unit, []), [-22])

    def test_ahead_of_wrong_signs(self):
        wrong = flat([note(7)])
        many = flat([note(0)] * 1028)
        for count, unit in ((0, 4), (17, 4), (255, 4), (4, 0), (4, 3), (4, 32), (4, 255), (0, 0)):
            self.assertEqual(beam(count, unit, wrong), [-22])
            self.assertEqual(beam(count, unit, many), [-22])

    def test_right_signs_do_not_help(self):
        quarters = flat([note(4)] * 4)
        for count, unit in ((0, 4), (17, 4), (4, 5), (4, 64)):
            self.assertEqual(beam(count, unit, quarters), [-22])


class HowMany(unittest.TestCase):

    def test_none(self):
        for count, unit in METERS:
            self.assertEqual(beam(count, unit, []), [0])

    def test_the_most(self):
        answer = beam(4, 4, flat([note(0)] * 1024))
        self.assertEqual((answer[0], len(answer)), (1024, 10241))

    def test_one_more(self):
        self.assertEqual(beam(1, 16, flat([note(0)] * 1020 + [note(2)] * 4))[0], 1024)
        self.assertEqual(beam(1, 16, flat([note(0)] * 1020 + [note(2)] * 5)), [-71])

    def test_the_longest_list(self):
        self.assertEqual(beam(1, 16, flat([note(2)] * 1200)), [-71])

    def test_the_most_that_do_not_stand_right(self):
        self.assertEqual(beam(3, 4, flat([note(0)] * 1024)), [-71])


class OneSign(unittest.TestCase):
    """Each wrong sign fills its bar: it alone is the cause."""

    def refused(self, count, unit, rows):
        self.assertEqual(beam(count, unit, flat(rows)), [-71], rows)

    def taken(self, count, unit, rows):
        self.assertEqual(beam(count, unit, flat(rows))[0], len(rows), rows)

    def changed(self, row, where, number):
        other = list(row)
        other[where] = number
        return other

    def test_base(self):
        self.refused(2, 1, [note(7)])
        self.refused(2, 1, [rest(7)])
        self.refused(3, 1, [note(7, dot=1)])
        for base in range(7):
            self.taken(1, 1, [note(base)] * (64 // 2 ** base))

    def test_dot_with_base_0(self):
        for sign in (note, rest):
            self.refused(1, 16, [sign(0, dot=1)] * 4)
            self.refused(1, 16, [sign(0, dot=1), sign(0), sign(0), sign(0)])
            self.refused(1, 16, [sign(1), sign(0), sign(0, dot=1)])

    def test_dot_with_another_base(self):
        for sign in (note, rest):
            self.taken(1, 16, [sign(1, dot=1), sign(0)])
            self.taken(3, 2, [sign(6, dot=1)])

    def test_letter(self):
        for letter in range(8):
            sign = self.changed(note(4), LETTER, letter)
            (self.taken if letter <= 6 else self.refused)(1, 4, [sign])

    def test_alter(self):
        for alter in range(8):
            sign = self.changed(note(4), ALTER, alter)
            (self.taken if alter <= 4 else self.refused)(1, 4, [sign])

    def test_octave(self):
        for octave in range(16):
            sign = self.changed(note(4), OCTAVE, octave)
            (self.taken if octave <= 8 else self.refused)(1, 4, [sign])

    def test_rest_with_something_of_a_note(self):
        tops = {LETTER: 7, ALTER: 7, OCTAVE: 15, TIE: 1}
        for where, top in tops.items():
            for number in range(1, top + 1):
                sign = self.changed(rest(4), where, number)
                self.refused(1, 4, [sign])
                self.refused(2, 4, [sign, rest(4)])
                self.refused(2, 4, [sign, [0, 0, 0, 0, 4, 0, 0, 0, 0, 0]])

    def test_what_is_printed_is_free(self):
        for shown in range(8):
            for beamed in range(4):
                for stem in (0, 1):
                    self.taken(1, 4, [note(4, shown=shown, beamed=beamed, stem=stem)])
                    self.taken(1, 4, [rest(4, shown=shown, beamed=beamed, stem=stem)])

    def test_wrong_sign_last(self):
        self.refused(4, 4, [note(4), note(4), note(4), self.changed(note(4), LETTER, 7)])
        self.refused(4, 4, [note(4), note(4), note(4), self.changed(rest(4), OCTAVE, 1)])


class Places(unittest.TestCase):

    def refused(self, count, unit, rows):
        self.assertEqual(beam(count, unit, flat(rows)), [-71], rows)

    def taken(self, count, unit, rows):
        self.assertEqual(beam(count, unit, flat(rows))[0], len(rows), rows)

    def test_not_a_multiple(self):
        self.refused(2, 4, [note(3), note(4), note(3)])
        self.refused(4, 4, [note(4), note(5), note(4)])
        self.refused(1, 4, [note(2), note(3, dot=1)])
        self.refused(1, 4, [rest(2), rest(3), rest(2)])
        self.refused(2, 1, [rest(5), rest(6), rest(5)])
        for base in range(1, 6):
            self.refused(1, 1, [rest(base - 1), rest(base), rest(base - 1)] + [rest(base)] * (64 // 2 ** base - 2))

    def test_a_dot_asks_for_no_more_than_the_base(self):
        self.taken(2, 4, [rest(3), note(3, dot=1), note(2), note(3)])
        self.taken(4, 4, [rest(4), note(4, dot=1), note(3), note(4)])

    def test_places_are_counted_from_each_bar(self):
        self.taken(3, 4, [note(4)] * 3 + [note(5), note(4)])
        self.taken(3, 4, [note(5, dot=1)] * 3)
        self.taken(5, 16, [note(4), note(2)] * 2)
        self.refused(3, 4, [note(4)] * 3 + [note(4), note(5)])
        self.refused(5, 16, [note(4), note(2), note(2), note(4)])

    def test_past_the_end_of_a_bar(self):
        self.refused(3, 4, [note(5), note(5)])
        self.refused(3, 4, [note(5), rest(5), rest(5)])
        self.refused(3, 4, [note(6), note(5)])
        self.refused(2, 4, [note(5, dot=1), note(4)])
        self.refused(4, 4, [note(5), note(5, dot=1), note(4), note(5)])
        self.refused(1, 4, [rest(5)])
        self.refused(1, 16, [rest(3)])

    def test_two_bars_long(self):
        self.refused(2, 4, [note(6)])
        self.refused(1, 8, [note(4)])

    def test_last_does_not_end_with_a_bar(self):
        self.refused(4, 4, [note(4)])
        self.refused(4, 4, [note(4)] * 3)
        self.refused(4, 4, [note(4)] * 5)
        self.refused(6, 8, [note(3)] * 7)
        self.refused(1, 16, [note(0)])
        self.refused(1, 16, [note(0)] * 3)

    def test_every_bar_is_as_long_as_told(self):
        for count, unit in METERS:
            size = count * 16 // unit
            self.taken(count, unit, [rest(2)] * size)
            self.taken(count, unit, [rest(2)] * (2 * size))
            self.refused(count, unit, [rest(2)] * size + [rest(1)])
            self.refused(count, unit, [rest(2)] * (size - 1) + [rest(1)])


class Ties(unittest.TestCase):

    def refused(self, rows):
        self.assertEqual(beam(2, 4, flat(rows)), [-71], rows)

    def taken(self, rows):
        self.assertEqual(beam(2, 4, flat(rows))[0], len(rows), rows)

    def test_held(self):
        self.taken([note(4, tie=1), note(4)])
        self.taken([note(4, tie=1), note(4, tie=1), note(4, tie=1), note(4)])
        self.taken([note(4), note(4, tie=1), note(5)])
        self.taken([note(3, tie=1), note(3), rest(4)])
        self.taken([note(4, tie=1, shown=1), note(4, shown=5)])

    def test_last(self):
        self.refused([note(5, tie=1)])
        self.refused([note(4), note(4, tie=1)])
        self.refused([note(4, tie=1), note(4, tie=1)])

    def test_followed_by_a_rest(self):
        self.refused([note(4, tie=1), rest(4)])
        self.refused([note(5, tie=1), rest(5), note(5)])

    def test_a_rest_is_not_the_lowest_note(self):
        lowest = [0, 0, 0, 0, 4, 0, 1, 0, 0, 0]
        self.refused([lowest, rest(4)])
        self.taken([lowest, [0, 0, 0, 0, 4, 0, 0, 0, 0, 0]])

    def test_another_letter(self):
        self.refused([[0, 2, 2, 4, 4, 0, 1, 0, 0, 0], [0, 3, 2, 4, 4, 0, 0, 0, 0, 0]])
        self.refused([[0, 3, 2, 4, 4, 0, 1, 0, 0, 0], [0, 2, 2, 4, 4, 0, 0, 0, 0, 0]])

    def test_another_alteration(self):
        self.refused([note(4, alter=2, tie=1), note(4, alter=3)])
        self.refused([note(4, alter=4, tie=1), note(4, alter=0)])

    def test_another_octave(self):
        self.refused([note(4, 0, tie=1), note(4, 7)])
        self.refused([note(4, 7, tie=1), note(4, 0)])

    def test_the_same_sound_is_not_the_same_note(self):
        self.refused([[0, 0, 3, 4, 4, 0, 1, 0, 0, 0], [0, 1, 1, 4, 4, 0, 0, 0, 0, 0]])

    def test_the_note_after_the_next_does_not_count(self):
        self.refused([note(3, tie=1), note(3, 1), note(4)])
        self.refused([note(3, tie=1), rest(3), note(4)])

    def test_not_tied(self):
        self.taken([note(4), note(4, 1)])
        self.taken([note(4), rest(4)])


if __name__ == "__main__":
    unittest.main()
