"""The desk, at which scenes and tasks are put and changed, and asked about."""

from sweptfree.acts import behind_act, without_prices, word_against
from sweptfree.errors import BadAct, NoTask, NothingDone, UnknownName
from sweptfree.plans import plan_or_paper
from sweptfree.prices import least_price
from sweptfree.scenetexts import scene_text
from sweptfree.tasktexts import task_text
from sweptfree.words import is_name


class Desk:
    """A desk without a scene.

    rows tells each act that was done, those that were taken back, too, with the scene and the task behind it; many is
    how many of them are done. What is known is kept by texts, so there is one entry for each time it looked.
    """

    def __init__(self):
        self.rows = []
        self.many = 0
        self.names = {}
        self.known_plans = {}
        self.known_prices = {}

    def now(self):
        """Return the pair of the scene and the task, each perhaps None."""
        return self.rows[self.many - 1][1:] if self.many > 0 else (None, None)

    def scene(self):
        """Return the scene, or None."""
        return self.now()[0]

    def task(self):
        """Return the task, or None."""
        return self.now()[1]

    def act_word(self, act):
        """Return the word with which an act, which may be anything, cannot be done now, or None."""
        scene, task = self.now()
        return word_against(scene, task, act)

    def do(self, act):
        """Do an act, which may be anything, and return how many acts are done then, or raise BadAct(word)."""
        word = self.act_word(act)
        if word is not None:
            raise BadAct(word)
        scene, task = self.now()
        row = (act,) + behind_act(scene, task, act)
        while len(self.rows) > self.many:
            self.rows.pop()
        self.rows.append(row)
        return self.redo()

    def undo(self):
        """Take the last act back and return how many acts are done then, or raise NothingDone()."""
        if self.many == 0:
            raise NothingDone()
        self.many -= 1
        return self.many

    def redo(self):
        """Do the act again that was taken back last and return how many acts are done then, or raise NothingDone()."""
        if self.many == len(self.rows):
            raise NothingDone()
        self.many += 1
        return self.many

    def acts(self):
        """Return the list of the acts that are done."""
        return [row[0] for row in self.rows[:self.many]]

    def asked(self):
        """Return the pair of the scene and the task, or raise NoTask()."""
        scene, task = self.now()
        if task is None:
            raise NoTask()
        return (scene, task)

    def told_of_plans(self):
        """Return what is told of whether there is a right plan, for all scenes that are equal but for prices."""
        scene, task = self.asked()
        key = scene_text(without_prices(scene)) + task_text(task)
        if key not in self.known_plans:
            self.known_plans[key] = plan_or_paper(scene, task)
        return self.known_plans[key]

    def plan(self):
        """Return the steps of a right plan, or None, or raise NoTask() or TooGreat()."""
        word, told = self.told_of_plans()
        return told if word == "plan" else None

    def paper(self):
        """Return a paper of none, or None, or raise NoTask() or TooGreat()."""
        word, told = self.told_of_plans()
        return told if word == "none" else None

    def price(self):
        """Return the least price, or None, or raise NoTask() or TooGreat()."""
        scene, task = self.asked()
        key = scene_text(scene) + task_text(task)
        if key not in self.known_prices:
            self.known_prices[key] = least_price(scene, task)
        return self.known_prices[key]

    def work(self):
        """Return how often the desk has looked for a plan or a paper, and how often for a least price."""
        return (len(self.known_plans), len(self.known_prices))

    def mark(self, name):
        """Set a mark: a name for the number of acts that are done."""
        self.names[name] = self.many

    def since(self, name):
        """Return how many acts more are done than at a mark, or raise UnknownName(name)."""
        if not is_name(name) or name not in self.names:
            raise UnknownName(name)
        return self.many - self.names[name]

    def marks(self):
        """Return the ascending list of the names of the marks."""
        return sorted(self.names)

    def twin(self):
        """Return a desk that is as this one is now, and goes its own way from then on."""
        other = Desk()
        other.rows = list(self.rows)
        other.many = self.many
        other.names = dict(self.names)
        other.known_plans = dict(self.known_plans)
        other.known_prices = dict(self.known_prices)
        return other
