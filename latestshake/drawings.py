"""Drawings: the lines of an SVG that shows signs, row by row, and the stations within their window."""

from latestshake.counts import is_count
from latestshake.numbers import floor_of
from latestshake.numerals import is_figures
from latestshake.ratios import NIL, ONE, added, negative
from latestshake.squares import MIDDLE_LET, NONE_LET, SOME_LET
from latestshake.windows import part_left

# How far the edge of a square goes.
WIDE = 20
LAST_LINE = "</svg>"


def first_line(many):
    """The line with which the drawing of so many squares a side begins."""
    size = WIDE * many
    return f'<svg xmlns="http://www.w3.org/2000/svg" viewBox="0 0 {size} {size}">'


def rect_line(row, column, many, sign):
    """The line of a run of so many alike signs."""
    fill = "black" if sign == MIDDLE_LET else "silver"
    return f'<rect x="{WIDE * column}" y="{WIDE * row}" width="{WIDE * many}" height="{WIDE}" fill="{fill}"/>'


def circle_line(x, y):
    """The line of a station."""
    return f'<circle cx="{x}" cy="{y}" r="5" fill="red"/>'


def runs_in(signs):
    """The longest runs of "#" or "+" in a row of signs: the first column, how many, the sign."""
    starts = [at for at, sign in enumerate(signs) if at == 0 or sign != signs[at - 1]]
    ends = starts[1:] + [len(signs)]
    return [(start, end - start, signs[start]) for start, end in zip(starts, ends) if signs[start] != NONE_LET]


def rect_lines(signs):
    """The lines of all runs, row by row."""
    runs = [(row, run) for row, told in enumerate(signs) for run in runs_in(told)]
    return [rect_line(row, column, many, sign) for row, (column, many, sign) in runs]


def circle_lines(stations, window):
    """The lines of the stations within a window, ascending by name."""
    found, size = [], WIDE * window[2]
    for _, x, y in sorted(stations, key=lambda station: station[0]):
        left, below = [part_left(window, axis, (number, NIL, NIL))[0] for axis, number in ((0, x), (1, y))]
        above = added(ONE, negative(below))
        if all([0 <= top <= bottom for top, bottom in (left, above)]):
            found.append(circle_line(floor_of((left, NIL, NIL), size), floor_of((above, NIL, NIL), size)))
    return found


def drawing_of(signs, stations, window):
    """The drawing of signs and stations in a window."""
    lines = [first_line(window[2]), *rect_lines(signs), *circle_lines(stations, window), LAST_LINE]
    return "\n".join(lines)


def numbers_quoted(line, places, many):
    """The whole numbers up to that of so many squares that stand quoted at some places of a line; None."""
    parts = line.split('"')
    if len(parts) <= max(places) or not all([is_figures(parts[place]) for place in places]):
        return None
    numbers = [int(parts[place]) for place in places]
    return numbers if all([is_count(number, 0, WIDE * many) for number in numbers]) else None


def is_circle(line, many):
    """Whether a line is that of a station in a window of so many squares a side."""
    numbers = numbers_quoted(line, (1, 3), many)
    return numbers is not None and circle_line(numbers[0], numbers[1]) == line


def signs_of_rects(lines, many):
    """The signs that the lines of runs tell; what is wrong in the lines is not asked."""
    marks = {}
    for line in lines:
        numbers = numbers_quoted(line, (1, 3, 5), many)
        if numbers is not None:
            x, y, size = numbers
            for at in range(size // WIDE):
                marks[y // WIDE, x // WIDE + at] = MIDDLE_LET if '"black"' in line else SOME_LET
    return tuple(["".join([marks.get((row, column), NONE_LET) for column in range(many)]) for row in range(many)])


def signs_told(text, many):
    """The signs that a drawing of so many squares a side tells; None if the text is none."""
    lines = text.split("\n")
    if lines[0] != first_line(many) or lines[-1] != LAST_LINE:
        return None
    rects = [line for line in lines if line.startswith("<rect")]
    circles = lines[1 + len(rects):-1]
    signs = signs_of_rects(rects, many)
    # Lines that tell these signs in another way than a drawing does are not alike to those that it has.
    if lines[1:1 + len(rects)] != rects or rects != rect_lines(signs):
        return None
    return signs if all([is_circle(line, many) for line in circles]) else None
