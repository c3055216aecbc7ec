"""How a shape at a place is to another shape, and the papers that show it."""

from sweptfree.fractions import is_fraction_pair
from sweptfree.meeting import does_part, is_common_point, is_line, paper_of, parting_line, relation
from sweptfree.words import is_integer


def shape_relation(one, other, place):
    """Return "meet", "touch" or "clear" for the shape one at a place and the shape other."""
    words = [relation(a, b, place) for a in one for b in other]
    for word in ("meet", "touch"):
        if word in words:
            return word
    return "clear"


def first_meeting(one, other, place):
    """Return the first pair (i, j) of numbers of pieces that meet, or None."""
    return first_pair(one, other, place, "meet")


def first_pair(one, other, place, word):
    """Return the first pair (i, j) of numbers of pieces that are so to each other, or None."""
    for i, a in enumerate(one):
        for j, b in enumerate(other):
            if relation(a, b, place) == word:
                return (i, j)
    return None


def shape_paper(one, other, place):
    """Return a paper of the shape one at a place and the shape other."""
    word = shape_relation(one, other, place)
    if word == "clear":
        return ("clear", parting_lines(one, other, place))
    i, j = first_pair(one, other, place, word)
    point = paper_of(one[i], other[j], place)[-1]
    if word == "meet":
        return ("meet", i, j, point)
    return ("touch", parting_lines(one, other, place), i, j, point)


def parting_lines(one, other, place):
    """Return for each piece of the one a tuple with a line for each piece of the other one, if none of them meet."""
    return tuple([parting_row(piece, other, place) for piece in one])


def parting_row(piece, other, place):
    """Return the tuple of the lines that part a piece at a place from each piece of the shape other."""
    return tuple([parting_line(piece, b, place) for b in other])


def judge_shape_paper(one, other, place, value):
    """Return None if value, which may be anything, is a paper of two shapes, and otherwise its first fault."""
    if not has_shape_paper_form(one, other, value):
        return ("form",)
    word = value[0]
    if word != "meet":
        fault = line_fault(one, other, place, value[1], word == "clear")
        if fault is not None:
            return fault
    if word != "clear":
        i, j, point = value[-3:]
        if not is_common_point(one[i], other[j], place, point, word == "meet"):
            return ("point",)
    return None


def has_shape_paper_form(one, other, value):
    """Return whether value, which may be anything, is one of the three papers of two shapes in form."""
    if not isinstance(value, tuple) or len(value) not in (2, 4, 5):
        return False
    if len(value) == 2:
        return value[0] == "clear" and are_lines(one, other, value[1])
    i, j, point = value[-3:]
    if not (is_number_below(i, len(one)) and is_number_below(j, len(other)) and is_fraction_pair(point)):
        return False
    if len(value) == 4:
        return value[0] == "meet"
    return value[0] == "touch" and are_lines(one, other, value[1])


def is_number_below(value, many):
    """Return whether value, which may be anything, is the number of one of so many."""
    return is_integer(value) and 0 <= value < many


def are_lines(one, other, value):
    """Return whether value, which may be anything, has for each piece of the one a line for each of the other one."""
    if not isinstance(value, tuple) or len(value) != len(one):
        return False
    return all(is_row_of_lines(row, len(other)) for row in value)


def is_row_of_lines(value, many):
    """Return whether value, which may be anything, is a tuple of so many lines."""
    return isinstance(value, tuple) and len(value) == many and all(is_line(line) for line in value)


def line_fault(one, other, place, lines, strictly):
    """Return the fault of the first line that does not part its two pieces, or None."""
    for k, a in enumerate(one):
        for n, b in enumerate(other):
            if not does_part(a, b, place, lines[k][n], strictly):
                return ("line", k, n)
    return None
