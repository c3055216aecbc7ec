"""Acts: the words with which they cannot be done at a desk, and what is there behind them."""

from sweptfree.free import is_free
from sweptfree.pieces import is_piece
from sweptfree.scenes import scene_fault
from sweptfree.tasks import is_number_of, task_fault
from sweptfree.trees import is_number

MEMBERS = {"scene": 2, "task": 2, "wall": 2, "unwall": 2, "price": 3}
MOST_WALLS = 8


def word_against(scene, task, act):
    """Return the word with which an act, which may be anything, cannot be done, or None."""
    if not is_act(act):
        return "form"
    if act[0] == "scene":
        return None if scene_fault(act[1]) is None else "scene"
    if scene is None:
        return "none"
    if act[0] == "task":
        return None if task_fault(scene, act[1]) is None else "task"
    if act[0] == "wall":
        return word_against_piece(scene, task, act[1])
    if act[0] == "unwall":
        return None if is_number_of(scene[2], act[1]) else "number"
    if not is_number_of(scene[5], act[1]):
        return "number"
    return None if is_number(act[2]) else "price"


def is_act(value):
    """Return whether value, which may be anything, is a tuple with a word of an act and as many members."""
    if not isinstance(value, tuple) or not value or not isinstance(value[0], str):
        return False
    return value[0] in MEMBERS and len(value) == MEMBERS[value[0]]


def word_against_piece(scene, task, piece):
    """Return the word with which a piece cannot be put behind the walls of a scene, or None."""
    if not is_piece(piece):
        return "piece"
    if len(scene[2]) >= MOST_WALLS:
        return "many"
    if task is not None and not is_free(with_pieces(scene, scene[2] + (piece,)), task[1], task[0]):
        return "start"
    return None


def behind_act(scene, task, act):
    """Return the pair of the scene and the task behind an act that can be done."""
    if act[0] == "scene":
        return (act[1], None)
    if act[0] == "task":
        return (scene, act[1])
    if act[0] == "wall":
        return (with_pieces(scene, scene[2] + (act[1],)), task)
    if act[0] == "unwall":
        return (with_pieces(scene, scene[2][:act[1]] + scene[2][act[1] + 1:]), task)
    return (with_price(scene, act[1], act[2]), task)


def with_pieces(scene, walls):
    """Return a scene with other walls."""
    return scene[:2] + (walls,) + scene[3:]


def with_price(scene, number, price):
    """Return a scene with another price of the deed with a number."""
    deeds = scene[5]
    return scene[:5] + (deeds[:number] + (deeds[number][:-1] + (price,),) + deeds[number + 1:],)


def without_prices(scene):
    """Return a scene with the price 0 for each deed."""
    return scene[:5] + (tuple([deed[:-1] + (0,) for deed in scene[5]]),)
