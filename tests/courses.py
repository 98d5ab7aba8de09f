"""Drawn courses: worlds with events in any order, and the plain machine that runs beside them."""

import random

from portage.compiler import compile_program
from portage.plain import begin, run
from portage.world import World
from tests.goods import Goods
from tests.programs import COUNTER, FAULTS, LEAVING, ROVING, SWARM, compiled

CALM = {"work": 40, "commit": 10, "send": 10, "deliver": 40, "push": 4, "sweep": 2}
WILD = {"work": 40, "commit": 8, "send": 8, "deliver": 30, "fall": 3, "push": 5, "sweep": 1}
GATHERING = {"work": 40, "commit": 8, "send": 8, "deliver": 30, "fall": 2, "push": 3, "gather": 2, "sweep": 10}
# How many of the images are made to carry much about.
MOVING = 5


def images():
    """Images that carry much about, the first MOVING ones, and those of drawn programs."""
    found = [compiled(text) for text in (COUNTER, ROVING, LEAVING, FAULTS, SWARM)]
    return found + [compile_program(Goods(seed, True).program()) for seed in range(40)]


class Course:
    """A world to which drawn events happen; the plain machine runs by its order."""

    def __init__(self, image, places, seed, weights):
        self.random = random.Random(seed)
        self.world = World(image, places)
        self.weights = weights
        self.plan = iter(())
        self.events = []
        self.plain = begin(image)
        self.steps = 0

    def sweep(self):
        """Events that send what there is and deliver most of it, in any order."""
        world, chance = self.world, self.random
        places = list(range(world.places()))
        chance.shuffle(places)
        before = len(world.air())
        for p in places:
            yield ("commit", p)
            yield ("send", p)
        letters = list(range(before, len(world.air())))
        chance.shuffle(letters)
        for k in letters:
            for _ in range(chance.choice([0, 1, 1, 1, 1, 1, 1, 2])):
                yield ("deliver", k)

    def drawn(self):
        """An event, as a rule one that can happen."""
        chance = self.random
        if chance.randrange(4) > 0:
            event = next(self.plan, None)
            if event is not None:
                return event
        word = chance.choices(list(self.weights), list(self.weights.values()))[0]
        if word == "sweep":
            self.plan = self.sweep()
            return next(self.plan)
        return self.simple(word)

    def simple(self, word):
        """An event of this word."""
        world, chance = self.world, self.random
        p = chance.randrange(world.places())
        if word == "gather":
            return ("gather",)
        if word == "deliver":
            many = len(world.air())
            late = chance.randrange(4) == 0
            return ("deliver", chance.randrange(0 if late else max(many - 15, 0), many) if many > 0 else 0)
        if word == "work":
            found = [(q, process) for q in range(world.places()) for process in world.present(q).ready()]
            return (word,) + (chance.choice(found) if found else (p, ()))
        if word == "push":
            found = [(q, one[0]) for q in range(world.places()) for one in world.present(q).bundles()]
            return (word,) + (chance.choice(found) if found else (p, ((), 0))) + (chance.randrange(world.places()),)
        return (word, p)

    def step(self):
        """Lets an event happen if it can; returns it, or None."""
        event = self.drawn()
        if not self.world.can(event):
            return None
        self.world.do(event)
        self.events.append(event)
        return event

    def several(self, most):
        """The same process at work, again and again, so that more than a few instructions are made."""
        event = self.step()
        for _ in range(self.random.randrange(most)):
            if event is not None and event[0] == "work" and self.world.can(event):
                self.world.do(event)
                self.events.append(event)
        return event

    def state(self):
        """The state of the plain machine behind the order of the world."""
        order = self.world.order()
        self.plain = run(self.world.image(), self.plain, order[self.steps:])
        self.steps = len(order)
        return self.plain
