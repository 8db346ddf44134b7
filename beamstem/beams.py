"""Beams and stems of signs in a meter.

A sign is ten numbers; inside this file each sign is one list of ten, a row.
"""

SIGN_SIZE = 10
MOST_SIGNS = 1024
WHOLE_TICKS = 64

# Where the numbers of a sign lie in its row.
REST = 0
LETTER = 1
ALTER = 2
OCTAVE = 3
BASE = 4
DOT = 5
TIE = 6
BEAM = 8

UNITS = (1, 2, 4, 8, 16)
BASE_TICKS = (1, 2, 4, 8, 16, 32, 64)
WHOLE_BASE = 6
BEAMED_BASE = 3
MIDDLE_LINE = 34


def is_meter(count, unit):
    return 1 <= count <= 16 and unit in UNITS


def bar_ticks(count, unit):
    return count * (WHOLE_TICKS // unit)


def beat_ticks(count, unit):
    if unit in (8, 16) and count % 3 == 0:
        return 3 * (WHOLE_TICKS // unit)
    return WHOLE_TICKS // unit


def split_signs(signs):
    return [signs[k:k + SIGN_SIZE] for k in range(0, len(signs), SIGN_SIZE)]


def is_sign(row):
    if row[BASE] > WHOLE_BASE:
        return False
    if row[BASE] == 0 and row[DOT] == 1:
        return False
    if row[REST] == 1:
        return row[LETTER] == 0 and row[ALTER] == 0 and row[OCTAVE] == 0 and row[TIE] == 0
    return row[LETTER] <= 6 and row[ALTER] <= 4 and row[OCTAVE] <= 8


def sign_ticks(row):
    ticks = BASE_TICKS[row[BASE]]
    if row[DOT] == 1:
        return ticks + ticks // 2
    return ticks


def all_signs(rows):
    for row in rows:
        if not is_sign(row):
            return False
    return True


def fill_bars(rows, bar):
    place = 0
    for row in rows:
        if place % BASE_TICKS[row[BASE]] != 0:
            return False
        place += sign_ticks(row)
        if place > bar:
            return False
        if place == bar:
            place = 0
    return place == 0


def same_pitch(row, other):
    # A rest's numbers are all 0 and so could be taken for a note's.
    if other[REST] == 1:
        return False
    return row[LETTER] == other[LETTER] and row[ALTER] == other[ALTER] and row[OCTAVE] == other[OCTAVE]


def ties_hold(rows):
    for k, row in enumerate(rows):
        if row[TIE] == 1:
            if k + 1 == len(rows) or not same_pitch(row, rows[k + 1]):
                return False
    return True


def stand_right(rows, bar):
    # all_signs goes first: the others look up what only a right base has.
    return all_signs(rows) and fill_bars(rows, bar) and ties_hold(rows)


def beat_numbers(rows, beat):
    """The number of the beat in which each sign begins.

    Beats are counted through all bars: a bar is so many whole beats,
    so no two bars share a number.
    """
    numbers = []
    place = 0
    for row in rows:
        numbers.append(place // beat)
        place += sign_ticks(row)
    return numbers


def is_short_note(row):
    return row[REST] == 0 and row[BASE] <= BEAMED_BASE


def run_end(rows, beats, start):
    """Where the run ends that begins at start: a group, or one sign alone."""
    end = start + 1
    if not is_short_note(rows[start]):
        return end
    while end < len(rows) and is_short_note(rows[end]) and beats[end] == beats[start]:
        end += 1
    return end


def height(row):
    return row[LETTER] + 7 * row[OCTAVE] - MIDDLE_LINE


def lone_stem(row):
    if row[REST] == 1 or row[BASE] == WHOLE_BASE:
        return 0
    return 1 if height(row) >= 0 else 0


def group_stem(run):
    heights = [height(row) for row in run]
    return 1 if max(heights) >= -min(heights) else 0


def run_stem(run):
    return lone_stem(run[0]) if len(run) == 1 else group_stem(run)


def beam_at(k, size):
    if size == 1:
        return 0
    if k == 0:
        return 1
    return 3 if k == size - 1 else 2


def run_numbers(run):
    stem = run_stem(run)
    numbers = []
    for k, row in enumerate(run):
        numbers.extend(row[:BEAM])
        numbers.append(beam_at(k, len(run)))
        numbers.append(stem)
    return numbers


def beam(count, unit, signs):
    """The number of signs and the signs with beam and stem set, or one refusal."""
    if not is_meter(count, unit):
        return [-22]
    rows = split_signs(signs)
    if len(rows) > MOST_SIGNS or not stand_right(rows, bar_ticks(count, unit)):
        return [-71]
    beats = beat_numbers(rows, beat_ticks(count, unit))
    answer = [len(rows)]
    start = 0
    while start < len(rows):
        end = run_end(rows, beats, start)
        answer.extend(run_numbers(rows[start:end]))
        start = end
    return answer
