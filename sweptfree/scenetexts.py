"""Texts of scenes: writing them, and reading them back."""

from sweptfree.reading import Reader
from sweptfree.trees import check_scene_tree


def scene_text(scene):
    """Return the written text of a scene."""
    limits, movers, walls, things, joined, deeds = scene
    lines = ["scene {", limits_line(limits)]
    lines.extend([mover_line(mover) for mover in movers])
    lines.append(f"walls {shape_text(walls)};" if walls else "walls;")
    lines.extend([thing_line(thing) for thing in things])
    lines.extend([joined_line(pair) for pair in joined])
    lines.extend([deed_line(deed) for deed in deeds])
    lines.append("}")
    return "".join(line + "\n" for line in lines)


def shape_text(shape):
    """Return the written pieces of a shape, or of walls."""
    return " ".join(piece_text(piece) for piece in shape)


def piece_text(piece):
    return "[" + points_text(piece) + "]"


def points_text(points):
    return " ".join(point_text(point) for point in points)


def point_text(point):
    return f"({point[0]}, {point[1]})"


def integers_text(integers):
    return " ".join(str(n) for n in integers)


def limits_line(limits):
    return "limits " + ", ".join(integers_text(pair) for pair in limits) + ";"


def mover_line(mover):
    name, faces, across, up = mover
    told = " ".join("face " + shape_text(face) for face in faces)
    return f"mover {name} across {integers_text(across)} up {integers_text(up)} {told};"


def thing_line(thing):
    name, shape, spots = thing
    return f"thing {name} {shape_text(shape)} at {points_text(spots)};"


def joined_line(pair):
    m, n = pair
    return f"joined {m};" if n is None else f"joined {m}, {n};"


def deed_line(deed):
    """Return the line of a deed of one of the three kinds."""
    if deed[0] == "grip":
        _, m, t, spot, place, offset, price = deed
        points = f"at {point_text(place)} offset {point_text(offset)}"
        return f"grip {m} takes {t} from {spot} {points} price {price};"
    if deed[0] == "lay":
        _, g, spot, place, price = deed
        return f"lay {g} on {spot} at {point_text(place)} price {price};"
    _, m, face, late, place, room, price = deed
    return f"turn {m} from {face} to {late} at {point_text(place)} room {shape_text(room)} price {price};"


def read_scene(text):
    """Return the scene that a text tells, or raise BadText(place), or BadTree(path)."""
    reader = Reader(text)
    scene = read_scene_form(reader)
    reader.finish()
    check_scene_tree(scene)
    return scene


def read_scene_form(reader):
    """Read a SCENE and return its tree, which need be no scene."""
    reader.skip("scene")
    reader.skip("{")
    limits = read_limits(reader)
    movers = []
    while reader.next_lexeme() == "mover":
        movers.append(read_mover(reader))
    reader.skip("walls")
    walls = read_pieces(reader)
    reader.skip(";")
    things = []
    while reader.next_lexeme() == "thing":
        things.append(read_thing(reader))
    joined = []
    while reader.next_lexeme() == "joined":
        joined.append(read_joined(reader))
    deeds = []
    while reader.next_lexeme() in ("grip", "lay", "turn"):
        deeds.append(read_deed(reader))
    reader.skip("}")
    return (limits, tuple(movers), walls, tuple(things), tuple(joined), tuple(deeds))


def read_limits(reader):
    """Read the line of the limits, of at least one pair."""
    reader.skip("limits")
    pairs = [(reader.take_integer(), reader.take_integer())]
    while reader.next_lexeme() == ",":
        reader.skip(",")
        pairs.append((reader.take_integer(), reader.take_integer()))
    reader.skip(";")
    return tuple(pairs)


def read_mover(reader):
    """Read a MOVER, whose faces stand last in the text, and second in the tree."""
    reader.skip("mover")
    name = reader.take_name()
    reader.skip("across")
    across = read_integers(reader)
    reader.skip("up")
    up = read_integers(reader)
    faces = [read_face(reader)]
    while reader.next_lexeme() == "face":
        faces.append(read_face(reader))
    reader.skip(";")
    return (name, tuple(faces), across, up)


def read_integers(reader):
    """Read at least one INT."""
    integers = [reader.take_integer()]
    while reader.sees_integer():
        integers.append(reader.take_integer())
    return tuple(integers)


def read_face(reader):
    reader.skip("face")
    return read_shape(reader)


def read_shape(reader):
    """Read at least one PIECE."""
    first = read_piece(reader)
    return (first,) + read_pieces(reader)


def read_pieces(reader):
    """Read any number of PIECEs."""
    pieces = []
    while reader.next_lexeme() == "[":
        pieces.append(read_piece(reader))
    return tuple(pieces)


def read_piece(reader):
    """Read a PIECE of at least three points."""
    reader.skip("[")
    points = [reader.take_point(), reader.take_point(), reader.take_point()]
    points.extend(read_points(reader))
    reader.skip("]")
    return tuple(points)


def read_points(reader):
    """Read any number of POINTs into a list."""
    points = []
    while reader.next_lexeme() == "(":
        points.append(reader.take_point())
    return points


def read_thing(reader):
    """Read a THING."""
    reader.skip("thing")
    name = reader.take_name()
    shape = read_shape(reader)
    reader.skip("at")
    spots = [reader.take_point()]
    spots.extend(read_points(reader))
    reader.skip(";")
    return (name, shape, tuple(spots))


def read_joined(reader):
    """Read a JOINED; one number alone stands for the mover and the walls."""
    reader.skip("joined")
    m = reader.take_numeral()
    n = None
    if reader.next_lexeme() == ",":
        n = reader.take_number_behind(",")
    reader.skip(";")
    return (m, n)


def read_deed(reader):
    """Read a DEED of the kind that its first word tells."""
    if reader.next_lexeme() == "grip":
        deed = read_grip(reader)
    elif reader.next_lexeme() == "lay":
        deed = read_lay(reader)
    else:
        deed = read_turn(reader)
    reader.skip(";")
    return deed


def read_grip(reader):
    m = reader.take_number_behind("grip")
    t = reader.take_number_behind("takes")
    spot = reader.take_number_behind("from")
    place = reader.take_point_behind("at")
    offset = reader.take_point_behind("offset")
    return ("grip", m, t, spot, place, offset, reader.take_number_behind("price"))


def read_lay(reader):
    g = reader.take_number_behind("lay")
    spot = reader.take_number_behind("on")
    place = reader.take_point_behind("at")
    return ("lay", g, spot, place, reader.take_number_behind("price"))


def read_turn(reader):
    m = reader.take_number_behind("turn")
    face = reader.take_number_behind("from")
    late = reader.take_number_behind("to")
    place = reader.take_point_behind("at")
    reader.skip("room")
    room = read_shape(reader)
    return ("turn", m, face, late, place, room, reader.take_number_behind("price"))
