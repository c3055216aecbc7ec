import unittest

from sweptfree.bench import Bench
from sweptfree.console import Console
from sweptfree.desk import Desk
from sweptfree.scenetexts import scene_text, shape_text
from sweptfree.tasktexts import task_text
from tests import helper
from tests.helper import (BOX, D_SCENE, D_TEXT, FORMS, FULL_TEXT, SQUARE, Z_SCENE, Z_TASK, Z_WALLED, Numbers,
                          first_wrong_place, in_lexemes, replaced)
from tests.test_nodes import great_scene
from tests.test_tasks import at

FORMS["LINE"] = (
    "SCENE | TASK | wall PIECE ; | unwall NUMERAL ; | price NUMERAL NUMERAL ; | undo ; | redo ; | mark NAME ;"
    " | since NAME ; | plan ; | cheapest ; | step NUMERAL ; | touch NUMERAL ; | walls ;")
WALL_LINE = "wall " + shape_text((Z_WALLED[2][0],)) + ";"
LINES = (D_TEXT, FULL_TEXT, task_text(Z_TASK), helper.FULL_TASK_TEXT, WALL_LINE, "unwall 0 ;", "price 0 17 ;", "undo ;",
         "redo ;", "mark plan ;", "since x9 ;", "plan ;", "cheapest ;", "step 12 ;", "touch 0 ;", "walls ;")


def console_with(*lines):
    desk = Desk()
    console = Console(desk)
    for line in lines:
        assert console.answer(line) == "done", line
    return desk, console


class ConsoleTest(unittest.TestCase):

    def answers(self, console, *rows):
        for line, answer in rows:
            told = console.answer(line)
            self.assertIs(type(told), str)
            self.assertEqual(told, answer, line)

    def test_the_document(self):
        _, console = console_with()
        self.answers(console, ("undo ; redo ;", "no 7"), ("wall ;", "no 5"), ("undo", "no 4"), ("price 0 -1 ;", "no 8"))

    def test_acts(self):
        desk, console = console_with()
        self.answers(
            console, ("walls ;", "no none"), (task_text(Z_TASK), "no none"), (WALL_LINE, "no none"), ("unwall 0 ;", "no none"),
            ("price 0 0 ;", "no none"), ("undo ;", "no nothing"), ("redo ;", "no nothing"), (scene_text(Z_SCENE), "done"),
            ("walls;", "0"), ("unwall 0;", "no number"), (task_text(Z_TASK), "done"), (WALL_LINE, "done"), ("walls ;", "1"),
            ("undo;", "done"), ("walls\n;\n", "0"), ("redo  ;", "done"), ("redo ;", "no nothing"), ("unwall 1;", "no number"),
            ("unwall 0;", "done"), ("price 1 1000000000000000000;", "done"), ("price 2 0;", "no number"),
            ("wall " + shape_text((BOX,)) + ";", "no start"), ("wall [(0, 0) (1, 0) (2, 0)];", "no piece"),
            ("wall [(1, 0) (0, 1) (0, 0)];", "no piece"), (f"unwall {10 ** 39} ;", "no number"),
            (f"price {10 ** 39} {10 ** 39} ;", "no number"), (f"price 0 {10 ** 39} ;", "done"))
        self.assertEqual(desk.scene()[5][0][-1], 10 ** 39)
        self.assertEqual(desk.acts()[:3], [("scene", Z_SCENE), ("task", Z_TASK), ("wall", Z_WALLED[2][0])])
        for _ in range(8):
            self.answers(console, ("wall [(0, 9) (1, 9) (1, 10)];", "done"))
        self.answers(console, ("wall [(0, 9) (1, 9) (1, 10)];", "no many"), ("walls ;", "8"))

    def test_texts_that_tell_no_scene(self):
        desk, console = console_with(scene_text(Z_SCENE), task_text(Z_TASK))
        for text in (FULL_TEXT, helper.BARE_TEXT, "scene { limits 0 1, 0 1, 0 1, 0 1; walls; }", "scene { limits 1 0; walls; }",
                     D_TEXT.replace("(0, 0)", "(2, 2)")):
            self.answers(console, (text, "no scene"))
        for text in (helper.FULL_TASK_TEXT, "task { start 2 / 4 ; things 0 ; faces 0 ; }",
                     "task { start 1; things 0; faces 0; thing 0 on 2; }", "task { start 9; things 0; faces 0; }",
                     "task { start 0 / 0 ; things ; faces ; }"):
            self.answers(console, (text, "no task"))
        self.assertEqual((desk.scene(), desk.task()), (Z_SCENE, Z_TASK))
        self.answers(console, (D_TEXT, "done"), (task_text(Z_TASK), "no task"))
        self.assertEqual((desk.scene(), desk.task()), (D_SCENE, None))

    def test_marks(self):
        desk, console = console_with()
        self.answers(console, ("since a ;", "no mark"), ("mark a ;", "done"), ("since a ;", "0"), (D_TEXT, "done"),
                     ("since a;", "1"), ("mark mark ;", "done"), ("undo ;", "done"), ("since mark ;", "-1"),
                     ("since a;", "0"), ("mark a ;", "done"), ("redo ;", "done"), ("since a;", "1"), ("since b ;", "no mark"),
                     ("mark 7 ;", "no 5"), ("mark abcdefghijklm ;", "no 5"), ("since - ;", "no 6"), ("mark A ;", "no 5"))
        self.assertEqual(desk.marks(), ["a", "mark"])

    def test_questions(self):
        desk, console = console_with()
        for line in ("plan ;", "cheapest ;", "step 0 ;", "touch 0 ;", f"step {10 ** 39} ;"):
            self.answers(console, (line, "no task"))
        console_lines = (scene_text(Z_SCENE), task_text(Z_TASK))
        self.answers(console, *[(line, "done") for line in console_lines])
        steps = desk.plan()
        self.answers(console, ("plan ;", str(len(steps))), ("cheapest ;", "5"))
        for k, (word, aim) in enumerate(steps):
            if word == "go":
                touches = Bench(Z_SCENE, Z_TASK, steps).touches(k)
                text = str(aim[0][0]) if aim[0][1] == 1 else f"{aim[0][0]}/{aim[0][1]}"
                self.answers(console, (f"step {k} ;", "go " + text), (f"touch {k} ;", str(len(touches))))
            else:
                self.answers(console, (f"step {k};", f"deed {aim}"), (f"touch {k};", "no go"))
        for n in (len(steps), len(steps) + 1, 10 ** 39):
            self.answers(console, (f"step {n} ;", "no step"), (f"touch {n} ;", "no go"))
        self.assertEqual(desk.work(), (1, 1))
        self.answers(console, (WALL_LINE, "done"), ("plan ;", "none"), ("cheapest ;", "none"), ("step 0 ;", "no step"),
                     ("touch 0 ;", "no go"))
        self.assertEqual(desk.work(), (2, 2))
        self.answers(console, ("undo ;", "done"), ("price 0 100 ;", "done"), ("cheapest ;", "102"),
                     ("plan ;", str(len(steps))))
        self.assertEqual(desk.work(), (2, 3))

    def test_several_sliders_and_fractions(self):
        scene = (((0, 5), (0, 3)), (("m", ((SQUARE,),), (0, 2, 0), (0, 0, 3)),), (), (), (), ())
        desk, console = console_with(scene_text(scene), task_text((at(0, 0), ((), (0,)), (("mover", 0, (3, 1)),))))
        steps = desk.plan()
        last = len(steps) - 1
        self.assertEqual(steps[last], ("go", ((3, 2), (1, 3))))
        self.answers(console, (f"step {last} ;", "go 3/2, 1/3"), (f"touch {last} ;", "0"))

    def test_too_great(self):
        desk, console = console_with(scene_text(great_scene(30)), "task { start 0; things; faces 0; }")
        for line in ("plan ;", "cheapest ;", "step 0 ;", "touch 0 ;"):
            self.answers(console, (line, "no great"))
        self.answers(console, ("walls ;", "30"))
        self.assertEqual(desk.work(), (0, 0))

    def test_nothing_is_changed_by_wrong_lines(self):
        desk, console = console_with(D_TEXT, "mark a ;", WALL_LINE, "undo ;")
        for line in ("", ";", "undo", "undo ; redo ;", "redo redo ;", "mark b", "mark b ; ;", "scene ;", "walls ; $",
                     D_TEXT + ";", D_TEXT + D_TEXT, "unwall 0 ; $"):
            self.assertEqual(console.answer(line), f"no {first_wrong_place(line, 'LINE')}", line)
        self.assertEqual((desk.scene(), desk.marks(), desk.acts()), (D_SCENE, ["a"], [("scene", D_SCENE)]))
        self.answers(console, ("redo ;", "done"))

    def check_place(self, line):
        place = first_wrong_place(line, "LINE")
        told = Console(Desk()).answer(line)
        if place is not None:
            self.assertEqual(told, f"no {place}", line)
        else:
            self.assertFalse(told[3:].isdigit(), (line, told))
        return place

    def test_wrong_places(self):
        for line in ("", " ", "\n", "$", "undo$", "undo ;$", "undo\t;", "UNDO ;", "undo; undo;", "mark plan;", "mark ;", "wall",
                     "walls", "wall s", "wall [(0, 0)];", "unwall ;", "unwall a ;", "unwall - 1 ;", "unwall 01 ;",
                     "price 1 ;", "price 1 2 3 ;", "price 1 / 2 ;", "step ;", "step -0 ;", "touch 1", "cheapest 1 ;", "plan",
                     "plans ;", "undo 1 ;", "12 ;", "- ;", "{ }", "since abcdefghijklm ;", "since abcdefghijkl ;",
                     "task { }", "scene { }", "wall [(0, 0) (1, 0) (0, 1)] [(0, 0) (1, 0) (0, 1)] ;"):
            self.check_place(line)

    def test_great_numerals_behind_the_wrong_place(self):
        great = "9" * 6000
        for line, answer in ((great, "no 0"), ("undo " + great + " ;", "no 5"), ("undo ; " + great, "no 7"),
                             ("task { start 1 ; things a " + great, "no 24"), ("price - " + great, "no 6"),
                             ("mark " + great + " ;", "no 5"), ("step - " + great, "no 5")):
            self.assertEqual(Console(Desk()).answer(line), answer)

    def test_all_lines_cut_and_changed(self):
        seen = {True: 0, False: 0}
        lexemes = ("undo", "wall", "walls", "plan", ";", "{", "}", "0", "17", "a", "-", "(", ",", "scene", "$", "things")
        numbers = Numbers(401)
        for line in LINES:
            self.assertIsNone(self.check_place(line))
            parts = in_lexemes(line)
            for k in range(0, len(parts) + 1, 1 if len(parts) < 60 else 7):
                self.check_place(" ".join(parts[:k]))
                for _ in range(3):
                    lexeme = numbers.choice(lexemes)
                    changed = numbers.choice((parts[:k] + [lexeme] + parts[k:], parts[:k] + [lexeme] + parts[k + 1:],
                                              parts[:k] + parts[k + 1:]))
                    seen[self.check_place("\n ".join(changed)) is None] += 1
        self.assertGreater(min(seen.values()), 20, seen)

    def test_tight_and_wide_lines(self):
        for line in LINES:
            parts = in_lexemes(line)
            wide = "\n\n " + " \n".join(parts) + "  \n"
            self.assertIsNone(self.check_place(wide))
            tight = "".join(part if not part[0].isalnum() else " " + part for part in parts)
            self.assertIsNone(self.check_place(tight))
            self.assertEqual(console_with()[1].answer(wide), console_with()[1].answer(line))

    def test_two_consoles_at_one_desk(self):
        desk, console = console_with(D_TEXT)
        other = Console(desk)
        self.answers(other, (WALL_LINE, "done"), ("walls ;", "2"))
        self.answers(console, ("walls ;", "2"), ("undo ;", "done"))
        self.answers(other, ("walls ;", "1"))
        desk.do(("scene", replaced(D_SCENE, (2,), ())))
        self.answers(console, ("walls ;", "0"))
        self.assertIsNone(desk.task())
