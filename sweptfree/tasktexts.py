"""Texts of tasks: writing them, and reading them back."""

from sweptfree.reading import Reader
from sweptfree.scenetexts import integers_text, point_text
from sweptfree.trees import check_task_tree


def task_text(task):
    """Return the written text of a task."""
    start, mode, goals = task
    lies, faces = mode
    lines = ["task {", "start " + ", ".join(fraction_text(fraction) for fraction in start) + ";"]
    lines.append(listed_line("things", " ".join(lie_text(lie) for lie in lies)))
    lines.append(listed_line("faces", integers_text(faces)))
    lines.extend([goal_line(goal) for goal in goals])
    lines.append("}")
    return "".join(line + "\n" for line in lines)


def fraction_text(fraction):
    """Return the written text of a fraction."""
    a, b = fraction
    return str(a) if b == 1 else f"{a}/{b}"


def listed_line(word, told):
    """Return the line of a word and what it lists, perhaps nothing."""
    return f"{word} {told};" if told else f"{word};"


def lie_text(lie):
    """Return how a thing lies: a spot's number, or by which deed it is held."""
    return f"held {lie[1]}" if isinstance(lie, tuple) else str(lie)


def goal_line(goal):
    if goal[0] == "thing":
        return f"thing {goal[1]} on {goal[2]};"
    return f"mover {goal[1]} at {point_text(goal[2])};"


def read_task(text):
    """Return the task that a text tells, or raise BadText(place), or BadTree(path)."""
    reader = Reader(text)
    task = read_task_form(reader)
    reader.finish()
    check_task_tree(task)
    return task


def read_task_form(reader):
    """Read a TASK and return its tree, which need be no task."""
    reader.skip("task")
    reader.skip("{")
    start = read_start(reader)
    lies = read_lies(reader)
    faces = read_faces(reader)
    goals = []
    while reader.next_lexeme() in ("thing", "mover"):
        goals.append(read_goal(reader))
    reader.skip("}")
    return (start, (lies, faces), tuple(goals))


def read_start(reader):
    """Read the line of the start, of at least one FRACTION."""
    reader.skip("start")
    fractions = [read_fraction(reader)]
    while reader.next_lexeme() == ",":
        reader.skip(",")
        fractions.append(read_fraction(reader))
    reader.skip(";")
    return tuple(fractions)


def read_fraction(reader):
    """Read a FRACTION, which may tell a pair that is none, such as 2/4."""
    a = reader.take_integer()
    if reader.next_lexeme() == "/":
        return (a, reader.take_number_behind("/"))
    return (a, 1)


def read_lies(reader):
    """Read the line of the things, of any number of HOLDs."""
    reader.skip("things")
    lies = []
    while reader.next_lexeme() != ";":
        if reader.next_lexeme() == "held":
            lies.append(("held", reader.take_number_behind("held")))
        else:
            lies.append(reader.take_numeral())
    reader.skip(";")
    return tuple(lies)


def read_faces(reader):
    """Read the line of the faces, of any number of NUMERALs."""
    reader.skip("faces")
    faces = []
    while reader.next_lexeme() != ";":
        faces.append(reader.take_numeral())
    reader.skip(";")
    return tuple(faces)


def read_goal(reader):
    """Read a GOAL of the kind that its first word tells."""
    if reader.next_lexeme() == "thing":
        t = reader.take_number_behind("thing")
        goal = ("thing", t, reader.take_number_behind("on"))
    else:
        m = reader.take_number_behind("mover")
        goal = ("mover", m, reader.take_point_behind("at"))
    reader.skip(";")
    return goal
