"""Systems of forms: what a point keeps, sliders that go, a point or multipliers.

A row is a pair (sort, form). Where multipliers are sought, its form has behind it the numbers with which it is made
of the rows of the system, and goes with them through all sums.
"""

from sweptfree.forms import is_constant, lowered, sign_at, value_of, value_parts
from sweptfree.fractions import floor_of, integer_sign, less, made, middle, whole
from sweptfree.words import is_integer


def value_at(form, point):
    """Return the value of a form at a point, a fraction."""
    return value_of(form, point)


def keeps(rows, point):
    """Return whether a point keeps all rows of a system."""
    return all(is_kept(sort, sign_at(form, point)) for sort, form in rows)


def is_kept(sort, sign):
    """Return whether a row of a sort is kept where its form has this sign."""
    if sort == "over":
        return sign > 0
    return sign >= 0 if sort == "from" else sign == 0


def gone(rows):
    """Return the system without its last slider, as a tuple."""
    return tuple([(sort, lowered(form[:-1])) for sort, form in without(rows, -1)])


def without(rows, at):
    """Return the list of rows that is left when the slider goes that has the number at of each form: it is 0 then."""
    for k, (sort, form) in enumerate(rows):
        if sort == "null" and form[at] != 0:
            return [(other, freed(g, form, at)) for n, (other, g) in enumerate(rows) if n != k]
    left = [(sort, form) for sort, form in rows if form[at] == 0]
    for sort, f in rows:
        if f[at] > 0:
            left.extend([(joint_sort(sort, other), freed(g, f, at)) for other, g in rows if g[at] < 0])
    return left


def freed(g, f, at):
    """Return a multiple above 0 of g, less as much of f that its number at this place is 0; f has another one there."""
    if g[at] == 0:
        return g
    times_g, times_f = abs(f[at]), g[at] * integer_sign(f[at])
    return tuple([times_g * m - times_f * n for m, n in zip(g, f)])


def joint_sort(one, other):
    """Return the sort of a row that is made of two, none of which is null."""
    return "over" if one == "over" or other == "over" else "from"


def solve(rows, sliders):
    """Return ("point", point) with a point of a system, or ("never", numbers) with multipliers for it."""
    systems = [numbered(rows)]
    for at in range(sliders, 0, -1):
        left = systems[-1] if at > 1 else narrowed(systems[-1])
        systems.append([(sort, lowered(form)) for sort, form in without(left, at)])
    for sort, form in systems[-1]:
        if not is_kept(sort, integer_sign(form[0])):
            return ("never", multipliers(sort, form, sliders))
    point = ()
    for at in range(1, sliders + 1):
        point = point + (number_between(ends(seen_from(systems[sliders - at], point))),)
    return ("point", point)


def has_point(rows, sliders):
    """Return whether a system has a point."""
    return solve(rows, sliders)[0] == "point"


def numbered(rows):
    """Return the list of the rows, each form with the numbers behind it that tell the row itself."""
    many = len(rows)
    return [(sort, form + (0,) * k + (1,) + (0,) * (many - k - 1)) for k, (sort, form) in enumerate(rows)]


def multipliers(sort, form, sliders):
    """Return the numbers of a row that no point keeps, so that its single number is not above 0."""
    numbers = form[sliders + 1:]
    if sort == "null" and form[0] > 0:
        return tuple([-n for n in numbers])
    return numbers


def narrowed(rows):
    """Return the rows of one slider, but of those that bound it only the tightest on each side."""
    left = [(sort, form) for sort, form in rows if sort == "null" or form[1] == 0]
    return left + [row for row in tightest_pair(rows) if row is not None]


def tightest_pair(rows):
    """Return the tightest row that bounds the one slider from below, and from above, each None if there is none."""
    low, high = None, None
    for row in rows:
        if row[0] != "null" and row[1][1] > 0:
            low = tighter(low, row)
        elif row[0] != "null" and row[1][1] < 0:
            high = tighter(high, row)
    return low, high


def tighter(best, row):
    """Return which of two rows, both of which bound the one slider on one side, bounds it more; best may be None."""
    if best is None:
        return row
    ours, theirs = row[1][0] * abs(best[1][1]), best[1][0] * abs(row[1][1])
    if ours == theirs:
        return row if row[0] == "over" else best
    return row if ours < theirs else best


def ends(rows):
    """Return how far the one slider of rows that have a point goes down and up.

    Each end is None, or a pair of a fraction and of whether it is a point's.
    """
    for sort, form in rows:
        if sort == "null" and form[1] != 0:
            end = (made(-form[0], form[1]), True)
            return (end, end)
    low, high = tightest_pair(rows)
    return (end_of(low), end_of(high))


def end_of(row):
    """Return the end that a row tells, or None without a row."""
    if row is None:
        return None
    sort, form = row
    return (made(-form[0], form[1]), sort == "from")


def seen_from(rows, point):
    """Return the rows of one slider, the next one, that are left of some rows when those ahead are a point's."""
    many = len(point)
    seen = []
    for sort, form in rows:
        above, below = value_parts(form[:many + 1], point)
        seen.append((sort, (above, form[many + 1] * below)))
    return seen


def number_between(told):
    """Return a fraction from one end to another one, between them if they are not equal, an integer if one is."""
    low, high = told
    if low is None:
        return whole(0) if high is None else whole(-floor_of((-high[0][0], high[0][1])) - 1)
    n = whole(floor_of(low[0]) + 1)
    if high is None or less(n, high[0]):
        return n
    return middle(low[0], high[0])


def judge_never(rows, value):
    """Return None if value, which may be anything, is multipliers for a system, and otherwise its first fault."""
    if not isinstance(value, tuple) or len(value) != len(rows) or not all(is_integer(n) for n in value):
        return ("form",)
    counts = False
    for k, (sort, _) in enumerate(rows):
        if sort != "null" and value[k] < 0:
            return ("sign", k)
        if sort == "over" and value[k] > 0:
            counts = True
    total = weighted_sum(rows, value)
    if not is_constant(total):
        return ("sum",)
    return None if total[0] < 0 or (total[0] == 0 and counts) else ("number",)


def weighted_sum(rows, numbers):
    """Return the sum of the forms, each by its number; (0,) without rows."""
    total = (0,)
    for (_, form), number in zip(rows, numbers):
        ahead = total + (0,) * (len(form) - len(total))
        total = tuple([n + number * m for n, m in zip(ahead, form)])
    return total
