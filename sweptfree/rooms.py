"""Rows of signs that are barred, apart, free and clear, the parts of the room, and ways of cells.

Where many rows are looked at, a contact is told by pairs (n, side), n being the number of a form in the frame.
"""

from sweptfree.bodies import all_bodies, bodies_beside
from sweptfree.frames import refuse_too_great


def bars_row(frame, contact, signs):
    """Return whether a contact bars a row of signs."""
    return not is_free(in_numbers(frame, [contact]), signs)


def apart_row(frame, contact, signs):
    """Return whether a contact is apart at a row of signs."""
    return is_clear(in_numbers(frame, [contact]), signs)


def free_row(frame, contacts, signs):
    """Return whether a row of signs is free of a list of contacts."""
    return is_free(in_numbers(frame, contacts), signs)


def clear_row(frame, contacts, signs):
    """Return whether a row of signs is clear of a list of contacts."""
    return is_clear(in_numbers(frame, contacts), signs)


def in_numbers(frame, contacts):
    """Return the list of the contacts, each as a list of pairs (n, side)."""
    return contacts_in_numbers({form: n for n, form in enumerate(frame[1])}, contacts)


def contacts_in_numbers(numbers, contacts):
    """Return the list of the contacts in numbers, a dict telling the number of each form."""
    return [[(numbers[form], side) for form, side in contact] for contact in contacts]


def is_free(told, signs):
    """Return whether no contact bars a row: none has all its pairs kept there."""
    for pairs in told:
        if all(signs[n] == side for n, side in pairs):
            return False
    return True


def is_clear(told, signs):
    """Return whether each contact is apart at a row: has one of its pairs crossed there."""
    for pairs in told:
        if not any(signs[n] == -side for n, side in pairs):
            return False
    return True


def parts(frame, contacts):
    """Return the list of the parts of the free room, each an ascending tuple of cells, by their first ones."""
    return lots(free_room(frame, contacts))


def clear_parts(frame, contacts):
    """Return the list of the parts of the clear room, each an ascending tuple of cells, by their first ones."""
    refuse_too_great(frame)
    told = in_numbers(frame, contacts)
    return lots(bodies_beside([body for body in all_bodies(frame) if is_clear(told, body[0])]))


def free_room(frame, contacts):
    """Return a dict that has for each free cell the list of those beside it, or raise TooGreat()."""
    refuse_too_great(frame)
    told = in_numbers(frame, contacts)
    return bodies_beside([body for body in all_bodies(frame) if is_free(told, body[0])])


def lots(beside):
    """Return the list of the lots of cells that rows of cells beside each other join; the cells ascend."""
    seen = {}
    found = []
    for cell in beside:
        if cell not in seen:
            lot = reached(beside, cell)
            for other in lot:
                seen[other] = True
            found.append(tuple(sorted(lot)))
    return found


def reached(beside, start):
    """Return a dict that has for each cell to which one comes from a cell the one ahead of it, None for this one."""
    ahead = {start: None}
    row = [start]
    at = 0
    while at < len(row):
        cell = row[at]
        at += 1
        for other in beside[cell]:
            if other not in ahead:
                ahead[other] = cell
                row.append(other)
    return ahead


def way_of_cells(frame, contacts, one, other):
    """Return a list of free cells from one to another one, each beside the next one, or None if there is none."""
    ahead = reached(free_room(frame, contacts), other)
    if one not in ahead:
        return None
    way = [one]
    while way[-1] != other:
        way.append(ahead[way[-1]])
    return way
