"""The console: lines with which a desk is changed and asked, and the answers to them."""

from sweptfree.bench import Bench
from sweptfree.errors import BadAct, BadText, NoTask, NothingDone, TooGreat, UnknownName
from sweptfree.reading import Reader
from sweptfree.scenetexts import read_piece, read_scene_form
from sweptfree.tasktexts import fraction_text, read_task_form


class Console:
    """Reads lines for a desk."""

    def __init__(self, desk):
        self.desk = desk

    def answer(self, line):
        """Do or ask what a line tells, and return the answer."""
        try:
            word, told = read_line(line)
        except BadText as error:
            return f"no {error.place}"
        answer_of = ANSWERS[word]
        try:
            return answer_of(self.desk, told)
        except NoTask:
            return "no task"
        except TooGreat:
            return "no great"


def read_line(line):
    """Return the pair of the first word of a line and what it tells, or raise BadText(place)."""
    reader = Reader(line)
    word = reader.next_lexeme()
    if word not in READERS:
        raise BadText(reader.next_place())
    read = READERS[word]
    told = read(reader)
    reader.finish()
    return (word, told)


def read_scene_act(reader):
    return ("scene", read_scene_form(reader))


def read_task_act(reader):
    return ("task", read_task_form(reader))


def read_piece_act(reader):
    reader.skip("wall")
    piece = read_piece(reader)
    reader.skip(";")
    return ("wall", piece)


def read_number_act(reader):
    return ("unwall", read_number(reader))


def read_price_act(reader):
    number = reader.take_number_behind("price")
    price = reader.take_numeral()
    reader.skip(";")
    return ("price", number, price)


def read_word(reader):
    """Read a line that is its first word alone."""
    reader.skip(reader.next_lexeme())
    reader.skip(";")
    return None


def read_mark(reader):
    """Read a line of a word and a NAME."""
    reader.skip(reader.next_lexeme())
    name = reader.take_name()
    reader.skip(";")
    return name


def read_number(reader):
    """Read a line of a word and a NUMERAL."""
    number = reader.take_number_behind(reader.next_lexeme())
    reader.skip(";")
    return number


READERS = {
    "scene": read_scene_act, "task": read_task_act, "wall": read_piece_act, "unwall": read_number_act,
    "price": read_price_act, "undo": read_word, "redo": read_word, "mark": read_mark, "since": read_mark,
    "plan": read_word, "cheapest": read_word, "step": read_number, "touch": read_number, "walls": read_word,
}


def answer_act(desk, act):
    try:
        desk.do(act)
    except BadAct as error:
        return f"no {error.word}"
    return "done"


def answer_undo(desk, _):
    try:
        desk.undo()
    except NothingDone:
        return "no nothing"
    return "done"


def answer_redo(desk, _):
    try:
        desk.redo()
    except NothingDone:
        return "no nothing"
    return "done"


def answer_mark(desk, name):
    desk.mark(name)
    return "done"


def answer_since(desk, name):
    try:
        return str(desk.since(name))
    except UnknownName:
        return "no mark"


def answer_plan(desk, _):
    steps = desk.plan()
    return "none" if steps is None else str(len(steps))


def answer_cheapest(desk, _):
    price = desk.price()
    return "none" if price is None else str(price)


def answer_step(desk, number):
    """Tell a step of the plan that the desk tells."""
    steps = desk.plan()
    if steps is None or number >= len(steps):
        return "no step"
    word, aim = steps[number]
    if word == "deed":
        return f"deed {aim}"
    return "go " + ", ".join(fraction_text(fraction) for fraction in aim)


def answer_touch(desk, number):
    """Tell how many touches a go of the plan that the desk tells has."""
    steps = desk.plan()
    if steps is None or number >= len(steps) or steps[number][0] != "go":
        return "no go"
    return str(len(Bench(desk.scene(), desk.task(), steps).touches(number)))


def answer_pieces(desk, _):
    scene = desk.scene()
    return "no none" if scene is None else str(len(scene[2]))


ANSWERS = {
    "scene": answer_act, "task": answer_act, "wall": answer_act, "unwall": answer_act, "price": answer_act,
    "undo": answer_undo, "redo": answer_redo, "mark": answer_mark, "since": answer_since, "plan": answer_plan,
    "cheapest": answer_cheapest, "step": answer_step, "touch": answer_touch, "walls": answer_pieces,
}
