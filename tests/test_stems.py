import unittest

from support import note, rest, stems


class Alone(unittest.TestCase):

    def test_about_the_middle_line(self):
        for base in range(6):
            fill = [rest(base)] * (64 // 2 ** base - 1)
            for height, told in ((0, 1), (1, 1), (-1, 0), (2, 1), (-2, 0), (28, 1), (-34, 0)):
                self.assertEqual(stems(1, 1, [note(base, height)] + fill)[0], told, (base, height))

    def test_the_middle_line_is_the_fourth_octaves_b(self):
        line = [0, 6, 2, 4, 4, 0, 0, 0, 0, 0]
        above = [0, 0, 2, 5, 4, 0, 0, 0, 0, 0]
        below = [0, 5, 2, 4, 4, 0, 0, 0, 0, 0]
        self.assertEqual(stems(3, 4, [line, above, below]), [1, 1, 0])

    def test_alteration_does_not_matter(self):
        for alter in range(5):
            rows = [note(4, 0, alter=alter), note(4, -1, alter=alter)]
            self.assertEqual(stems(2, 4, rows), [1, 0])

    def test_a_whole_note(self):
        for height in (-34, -1, 0, 1, 28):
            self.assertEqual(stems(1, 1, [note(6, height, stem=1)]), [0])
            self.assertEqual(stems(3, 2, [note(6, height, dot=1, stem=1)]), [0])

    def test_a_rest(self):
        for base in range(7):
            self.assertEqual(set(stems(1, 1, [rest(base, stem=1)] * (64 // 2 ** base))), {0})

    def test_a_short_note_in_no_group(self):
        self.assertEqual(stems(3, 8, [note(3, 5), rest(3), note(3, -5)]), [1, 0, 0])


class Groups(unittest.TestCase):

    def pair(self, one, other):
        return stems(1, 4, [note(3, one), note(3, other)])

    def test_as_far_above_as_below(self):
        for far in range(29):
            self.assertEqual(self.pair(far, -far), [1, 1])
            self.assertEqual(self.pair(-far, far), [1, 1])

    def test_just_less_above_than_below(self):
        for far in range(29):
            self.assertEqual(self.pair(far, -far - 1), [0, 0])
            self.assertEqual(self.pair(-far - 1, far), [0, 0])

    def test_just_more_above_than_below(self):
        for far in range(28):
            self.assertEqual(self.pair(far + 1, -far), [1, 1])
            self.assertEqual(self.pair(-far, far + 1), [1, 1])

    def test_all_on_one_side(self):
        self.assertEqual(self.pair(1, 9), [1, 1])
        self.assertEqual(self.pair(-1, -9), [0, 0])
        self.assertEqual(self.pair(-3, -3), [0, 0])
        self.assertEqual(self.pair(0, 0), [1, 1])

    def test_the_greatest_and_the_least_decide(self):
        self.assertEqual(stems(1, 4, [note(2, height) for height in (-1, 4, -3, -2)]), [1] * 4)
        self.assertEqual(stems(1, 4, [note(2, height) for height in (3, 2, -4, 3)]), [0] * 4)
        self.assertEqual(stems(1, 4, [note(2, height) for height in (-3, -3, -3, 3)]), [1] * 4)

    def test_each_group_by_itself(self):
        rows = [note(3, height) for height in (1, 2, -1, -2, 5, -6, -5, 6)]
        self.assertEqual(stems(4, 4, rows), [1, 1, 0, 0, 0, 0, 1, 1])
        self.assertEqual(stems(1, 4, rows), [1, 1, 0, 0, 0, 0, 1, 1])

    def test_what_stands_beside_a_group_does_not_matter(self):
        rows = [note(4, 20), note(3, -1), note(3, -2), note(4, 20)]
        self.assertEqual(stems(3, 4, rows), [1, 0, 0, 1])
        rows = [note(2, 3), note(2, 2), rest(2), note(2, -9)]
        self.assertEqual(stems(1, 4, rows), [1, 1, 0, 0])


if __name__ == "__main__":
    unittest.main()
