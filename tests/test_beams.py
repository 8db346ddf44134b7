import unittest

from support import BEAM, STEM, answered, beams, note, rest

EIGHTH = note(3)
SIXTEENTH = note(2)
QUARTER = note(4)


class Beats(unittest.TestCase):

    def test_quarters_as_beats(self):
        self.assertEqual(beams(4, 4, [EIGHTH] * 8), [1, 3] * 4)
        self.assertEqual(beams(4, 4, [SIXTEENTH] * 16), [1, 2, 2, 3] * 4)

    def test_six_eight_and_three_four(self):
        self.assertEqual(beams(6, 8, [EIGHTH] * 6), [1, 2, 3] * 2)
        self.assertEqual(beams(3, 4, [EIGHTH] * 6), [1, 3] * 3)

    def test_beats_of_three(self):
        for count in (3, 6, 9, 12, 15):
            self.assertEqual(beams(count, 8, [EIGHTH] * count), [1, 2, 3] * (count // 3))
            self.assertEqual(beams(count, 16, [SIXTEENTH] * count), [1, 2, 3] * (count // 3))

    def test_no_beats_of_three(self):
        for count in (1, 2, 4, 5, 7, 8, 10, 11, 13, 14, 16):
            self.assertEqual(beams(count, 8, [EIGHTH] * count), [0] * count)
            self.assertEqual(beams(count, 8, [SIXTEENTH] * (2 * count)), [1, 3] * count)
            self.assertEqual(beams(count, 16, [SIXTEENTH] * count), [0] * count)
            self.assertEqual(beams(count, 16, [note(1)] * (2 * count)), [1, 3] * count)

    def test_longer_units_have_no_beats_of_three(self):
        for count in range(1, 17):
            self.assertEqual(beams(count, 4, [EIGHTH] * (2 * count)), [1, 3] * count)
            self.assertEqual(beams(count, 2, [EIGHTH] * (4 * count)), [1, 2, 2, 3] * count)
            self.assertEqual(beams(count, 1, [EIGHTH] * (8 * count)), [1, 2, 2, 2, 2, 2, 2, 3] * count)

    def test_a_sign_is_of_the_beat_in_which_it_begins(self):
        self.assertEqual(beams(2, 16, [note(1), note(1, dot=1), note(0), note(1)]), [1, 3, 1, 3])
        self.assertEqual(beams(2, 16, [note(2, dot=1), note(0), note(0)]), [0, 1, 3])
        self.assertEqual(beams(2, 8, [note(3, dot=1), SIXTEENTH]), [0, 0])


class Corners(unittest.TestCase):

    def test_a_beat_of_one_short_note(self):
        self.assertEqual(beams(1, 8, [EIGHTH]), [0])
        self.assertEqual(beams(2, 4, [EIGHTH, rest(3), rest(3), EIGHTH]), [0, 0, 0, 0])
        self.assertEqual(beams(3, 4, [EIGHTH, rest(3), EIGHTH, EIGHTH, rest(3), EIGHTH]), [0, 0, 1, 3, 0, 0])

    def test_short_notes_on_both_sides_of_a_beat(self):
        self.assertEqual(beams(2, 4, [rest(3), EIGHTH, EIGHTH, rest(3)]), [0, 0, 0, 0])

    def test_a_group_that_ends_with_a_bar_and_another_behind_it(self):
        self.assertEqual(beams(1, 4, [EIGHTH] * 4), [1, 3, 1, 3])
        self.assertEqual(beams(2, 4, [QUARTER, EIGHTH, EIGHTH, EIGHTH, EIGHTH, QUARTER]), [0, 1, 3, 1, 3, 0])
        self.assertEqual(beams(3, 8, [EIGHTH] * 9), [1, 2, 3] * 3)
        self.assertEqual(beams(5, 8, [SIXTEENTH] * 20), [1, 3] * 10)

    def test_one_short_note_on_each_side_of_a_bar(self):
        self.assertEqual(beams(1, 4, [rest(3), EIGHTH, EIGHTH, rest(3)]), [0, 0, 0, 0])

    def test_a_dotted_eighth_and_a_sixteenth(self):
        self.assertEqual(beams(1, 4, [note(3, dot=1), SIXTEENTH]), [1, 3])
        self.assertEqual(beams(2, 4, [note(3, dot=1), SIXTEENTH] * 2), [1, 3, 1, 3])
        self.assertEqual(beams(6, 8, [note(3, dot=1), SIXTEENTH, EIGHTH] * 2), [1, 2, 3] * 2)

    def test_a_quarter_between_two_eighths(self):
        self.assertEqual(beams(1, 1, [rest(3), EIGHTH, QUARTER, EIGHTH, rest(3), rest(4)]), [0] * 6)
        self.assertEqual(beams(1, 1, [EIGHTH, EIGHTH, QUARTER, EIGHTH, EIGHTH, rest(4)]), [1, 3, 0, 1, 3, 0])
        self.assertEqual(beams(3, 4, [rest(3), EIGHTH, QUARTER, EIGHTH, rest(3)]), [0] * 5)
        self.assertEqual(beams(3, 4, [EIGHTH, EIGHTH, QUARTER, EIGHTH, EIGHTH]), [1, 3, 0, 1, 3])

    def test_a_rest_between(self):
        self.assertEqual(beams(1, 4, [SIXTEENTH, SIXTEENTH, rest(2), SIXTEENTH]), [1, 3, 0, 0])
        self.assertEqual(beams(1, 4, [SIXTEENTH, rest(2), SIXTEENTH, SIXTEENTH]), [0, 0, 1, 3])
        self.assertEqual(beams(3, 8, [EIGHTH, rest(3), EIGHTH]), [0, 0, 0])
        self.assertEqual(beams(1, 2, [EIGHTH, SIXTEENTH, rest(2), SIXTEENTH, SIXTEENTH, EIGHTH]), [1, 3, 0, 1, 2, 3])

    def test_bases(self):
        for base in range(4):
            self.assertEqual(beams(1, 1, [note(base), note(base)] + [rest(base)] * (64 // 2 ** base - 2))[:3], [1, 3, 0])
        for base in (4, 5):
            self.assertEqual(set(beams(1, 1, [note(base)] * (64 // 2 ** base))), {0})
        self.assertEqual(beams(2, 1, [note(6), note(6)]), [0, 0])

    def test_rests_alone(self):
        self.assertEqual(beams(1, 4, [rest(2)] * 4), [0] * 4)

    def test_ties_do_not_matter(self):
        tied = note(3, tie=1)
        self.assertEqual(beams(2, 4, [tied, tied, tied, EIGHTH]), [1, 3, 1, 3])

    def test_a_long_group(self):
        self.assertEqual(beams(1, 1, [note(0)] * 64), [1] + [2] * 62 + [3])


class WhatWasHandedIn(unittest.TestCase):

    def test_beam_and_stem_are_set_whatever_they_were(self):
        for beamed in range(4):
            for stem in (0, 1):
                old = {"beamed": beamed, "stem": stem}
                rows = [note(3, 1, **old), note(3, 2, **old), note(4, -1, **old), rest(4, **old),
                        note(3, -2, **old), note(3, -2, **old), note(6, 5, **old),
                        note(5, 3, **old), note(5, -3, **old)]
                got = answered(4, 4, rows)
                self.assertEqual([row[BEAM] for row in got], [1, 3, 0, 0, 1, 3, 0, 0, 0])
                self.assertEqual([row[STEM] for row in got], [1, 1, 0, 0, 0, 0, 0, 1, 0])

    def test_everything_else_stays(self):
        for shown in range(8):
            rows = [note(3, 4, alter=0, tie=1, shown=shown), note(3, 4, alter=0, shown=7 - shown),
                    rest(3, dot=1, shown=shown), note(2, -9, alter=4, shown=shown)]
            got = answered(2, 4, rows)
            self.assertEqual([row[:BEAM] for row in got], [row[:BEAM] for row in rows])
            self.assertEqual([row[BEAM] for row in got], [1, 3, 0, 0])
            self.assertEqual([row[STEM] for row in got], [1, 1, 0, 0])


if __name__ == "__main__":
    unittest.main()
