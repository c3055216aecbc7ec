"""Contacts and bars of one scene's modes, each worked out once as long as one question is asked."""

from sweptfree.bars import ascending, marks_in_room, place_forms, room_outline
from sweptfree.outlines import body_outline, outline_contacts
from sweptfree.places import looked_at
from sweptfree.tasks import mover_and_place


class Known:
    """What is known of the contacts of a scene: of bodies that lie, are held and are turned alike in many modes."""

    def __init__(self, scene):
        self.tree = scene
        self.outlines = {}
        self.pairs = {}
        self.bars = {}
        self.contacts = {}
        self.places = {}

    def outline(self, mode, mark):
        """Return the outline of a body as it is in a mode."""
        key = (mark, told_in(mode, mark))
        if key not in self.outlines:
            self.outlines[key] = body_outline(self.tree, mode, mark)
        return self.outlines[key]

    def body_contacts(self, mode, one, other):
        """Return the pair (contacts, bars) of lists for two bodies by their marks."""
        key = (one, told_in(mode, one), other, told_in(mode, other))
        if key not in self.pairs:
            self.pairs[key] = outline_contacts(self.outline(mode, one), self.outline(mode, other))
        return self.pairs[key]

    def bars_in(self, mode):
        """Return the ascending list of the bars of a mode."""
        if mode not in self.bars:
            bars = []
            for one, other in looked_at(self.tree, mode):
                bars.extend(self.body_contacts(mode, one, other)[1])
            self.bars[mode] = ascending(bars)
        return self.bars[mode]

    def contacts_by_pairs(self, mode):
        """Return the list of the pairs of marks that are looked at in a mode, each with its contacts."""
        if mode not in self.contacts:
            pairs = looked_at(self.tree, mode)
            self.contacts[mode] = [((one, other), self.body_contacts(mode, one, other)[0]) for one, other in pairs]
        return self.contacts[mode]

    def bars_in_room(self, mode, number):
        """Return the ascending list of the room bars of a deed that fits a mode, [] if it is no turn."""
        if self.tree[5][number][0] != "turn":
            return []
        if number not in self.outlines:
            self.outlines[number] = room_outline(self.tree, number)
        bars = []
        for mark in marks_in_room(self.tree, mode, number):
            key = (number, mark, told_in(mode, mark))
            if key not in self.pairs:
                self.pairs[key] = outline_contacts(self.outlines[number], self.outline(mode, mark))
            bars.extend(self.pairs[key][1])
        return ascending(bars)

    def place_of_deed(self, number):
        """Return the place forms of a deed, or None if its mover can never stand at its place."""
        if number not in self.places:
            mover, place = mover_and_place(self.tree, number)
            self.places[number] = place_forms(self.tree, mover, place)
        return self.places[number]


def told_in(mode, mark):
    """Return what a mode tells of the body with a mark."""
    sort, number = mark
    if sort == 0:
        return mode[1][number]
    return mode[0][number] if sort == 1 else None
