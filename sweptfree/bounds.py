"""Extents of forms over systems, rows that follow, bounding rows, ranks and dimensions."""

from sweptfree.forms import is_constant, lowered, rank
from sweptfree.fractions import whole
from sweptfree.systems import ends, has_point, without


def extent(rows, sliders, form):
    """Return the extent of a form over a system that has a point."""
    if is_constant(form):
        end = (whole(form[0]), True)
        return (end, end)
    left = [(sort, (f[0], 0) + f[1:]) for sort, f in rows]
    left.append(("null", (-form[0], 1) + tuple([-n for n in form[1:]])))
    for at in range(sliders + 1, 1, -1):
        left = [(sort, lowered(f)) for sort, f in without(left, at)]
    return ends(left)


def follows(rows, sliders, row):
    """Return whether a row follows from a system."""
    return not any(has_point(list(rows) + [denial], sliders) for denial in denied(row))


def denied(row):
    """Return the list of the rows that deny a row: a point does not keep it exactly if it keeps one of these."""
    sort, form = row
    other = tuple([-n for n in form])
    if sort == "over":
        return [("from", other)]
    if sort == "from":
        return [("over", other)]
    return [("over", form), ("over", other)]


def bounding(rows, sliders):
    """Return the ascending list of the numbers of the bounding rows of a system."""
    left = list(range(len(rows)))
    for k in range(len(rows) - 1, -1, -1):
        others = [rows[n] for n in left if n != k]
        if follows(others, sliders, rows[k]):
            left = [n for n in left if n != k]
    return left


def rank_of(forms):
    """Return the rank of a list of forms."""
    return rank(forms)


def dimension(rows, sliders):
    """Return the dimension of a system."""
    if not has_point(rows, sliders):
        return -1
    return sliders - rank([form for sort, form in rows if is_always_null(rows, sliders, sort, form)])


def is_always_null(rows, sliders, sort, form):
    """Return whether the form of a row of a system is 0 at each of its points because of its own sort."""
    if sort == "from":
        return not has_point(list(rows) + [("over", form)], sliders)
    return sort == "null"
