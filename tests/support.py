"""Signs for the tests, and the document's words said a second way."""

import random

from beamstem.beams import beam

METERS = [(count, unit) for unit in (1, 2, 4, 8, 16) for count in range(1, 17)]
REST, LETTER, ALTER, OCTAVE, BASE, DOT, TIE, SHOWN, BEAM, STEM = range(10)


def note(base, height=0, dot=0, tie=0, alter=2, shown=0, beamed=0, stem=0):
    """A note at so many steps above the middle line."""
    octave, letter = divmod(height + 34, 7)
    return [0, letter, alter, octave, base, dot, tie, shown, beamed, stem]


def rest(base, dot=0, shown=0, beamed=0, stem=0):
    return [1, 0, 0, 0, base, dot, 0, shown, beamed, stem]


def flat(rows):
    return [number for row in rows for number in row]


def rows_of(numbers):
    return [numbers[k:k + 10] for k in range(0, len(numbers), 10)]


def answered(count, unit, rows):
    """The rows that beam answers; its first number must be how many they are."""
    answer = beam(count, unit, flat(rows))
    if answer[0] != len(rows) or len(answer) != 1 + 10 * len(rows):
        raise AssertionError("%d/%d: %r" % (count, unit, answer[:11]))
    return rows_of(answer[1:])


def beams(count, unit, rows):
    return [row[BEAM] for row in answered(count, unit, rows)]


def stems(count, unit, rows):
    return [row[STEM] for row in answered(count, unit, rows)]


def ticks(row):
    return (2 ** row[BASE] * (3 if row[DOT] else 2)) // 2


def spots(count, unit, rows):
    """Of each sign the bar and the place in it, for signs that stand right."""
    bar = count * 64 // unit
    at = 0
    found = []
    for row in rows:
        found.append(divmod(at, bar))
        at += ticks(row)
    return found


def beat_of(count, unit, spot):
    length = 64 // unit
    if unit in (8, 16) and count in (3, 6, 9, 12, 15):
        length = 3 * 64 // unit
    return spot[0], spot[1] // length


def expected_beams(count, unit, rows):
    """Beams told by whether a sign is joined to its neighbours."""
    beats = [beat_of(count, unit, spot) for spot in spots(count, unit, rows)]
    short = [row[REST] == 0 and row[BASE] in (0, 1, 2, 3) for row in rows]
    joined = [False] + [short[k] and short[k + 1] and beats[k] == beats[k + 1]
                        for k in range(len(rows) - 1)] + [False]
    told = {(False, False): 0, (False, True): 1, (True, True): 2, (True, False): 3}
    return [told[joined[k], joined[k + 1]] for k in range(len(rows))]


def expected_stems(rows, beamed):
    heights = [row[LETTER] + 7 * row[OCTAVE] - (6 + 7 * 4) for row in rows]
    result = []
    first = 0
    for k, row in enumerate(rows):
        if beamed[k] == 0:
            down = row[REST] == 0 and row[BASE] != 6 and heights[k] >= 0
            result.append(int(down))
        if beamed[k] == 1:
            first = k
        if beamed[k] == 3:
            group = heights[first:k + 1]
            above, below = max(group), -min(group)
            result.extend([int(above >= below)] * len(group))
    return result


def expected(count, unit, rows):
    if not (count in range(1, 17) and unit in (1, 2, 4, 8, 16)):
        return [-22]
    if len(rows) > 1024 or not right(count, unit, rows):
        return [-71]
    beamed = expected_beams(count, unit, rows)
    stemmed = expected_stems(rows, beamed)
    return [len(rows)] + flat([row[:8] + [beamed[k], stemmed[k]] for k, row in enumerate(rows)])


def right(count, unit, rows):
    for row in rows:
        if row[BASE] == 7 or (row[BASE], row[DOT]) == (0, 1):
            return False
        if row[REST] and any(row[k] for k in (LETTER, ALTER, OCTAVE, TIE)):
            return False
        if row[LETTER] == 7 or row[ALTER] in (5, 6, 7) or row[OCTAVE] > 8:
            return False
    bar = count * 64 // unit
    for row, (number, place) in zip(rows, spots(count, unit, rows)):
        if place % 2 ** row[BASE] or place + ticks(row) > bar:
            return False
    if sum(ticks(row) for row in rows) % bar:
        return False
    for row, behind in zip(rows, rows[1:] + [rest(0)]):
        if row[TIE] and (behind[REST] or row[LETTER:BASE] != behind[LETTER:BASE]):
            return False
    return True


def random_pitch(chance):
    if chance.random() < 0.5:
        return [chance.randrange(7), chance.randrange(5), chance.randrange(4, 6)]
    return [chance.randrange(7), chance.randrange(5), chance.randrange(9)]


def random_row(chance, place, bar, shortest):
    """A sign that fits at this place of a bar, mostly a short one."""
    fits = []
    for base in range(7):
        for dot in (0, 1):
            row = note(base, dot=dot)
            if (base, dot) != (0, 1) and place % 2 ** base == 0 and place + ticks(row) <= bar:
                fits.append((base, dot))
    picked = [fit for fit in fits if fit[0] >= shortest] or fits
    base, dot = chance.choice(picked)
    printed = [chance.randrange(8), chance.randrange(4), chance.randrange(2)]
    if chance.random() < 0.15:
        return [1, 0, 0, 0, base, dot, 0] + printed
    return [0] + random_pitch(chance) + [base, dot, 0] + printed


def random_rows(chance, count, unit, bars):
    """So many bars of signs that stand right, some of them tied."""
    bar = count * 64 // unit
    shortest = chance.randrange(4)
    rows = []
    for number in range(bars):
        place = 0
        while place < bar:
            row = random_row(chance, place, bar, shortest)
            place += ticks(row)
            if rows and row[REST] == 0 and rows[-1][REST] == 0 and chance.random() < 0.2:
                rows[-1][TIE] = 1
                row[LETTER:BASE] = rows[-1][LETTER:BASE]
            rows.append(row)
    return rows


def many_pieces():
    """Signs that stand right, in every meter, the same at each run."""
    chance = random.Random(31)
    for count, unit in METERS:
        for bars in (1, 2, 3):
            rows = random_rows(chance, count, unit, bars)
            if len(rows) <= 1024:
                yield count, unit, rows
