"""The picture of a world, a state of the plain machine that is made of what the places have kept."""

from portage.micro import first_frame, pushed
from portage.plain import begin, run


def under_way(world):
    """Returns the tuple of the letters that are under way, ascending by the sender, the receiver and the number."""
    return _not_taken(_kept_places(world))


def _kept_places(world):
    return [world.kept(p) for p in range(world.places())]


def _not_taken(places):
    """Returns the letters of the outboxes that their receivers have not taken; `places` are the kept states of all."""
    letters = [letter for place in places for letter in place.outbox()]
    return tuple(sorted([letter for letter in letters if not places[letter[1]].has_taken(letter[0], letter[2])]))


class Scene:
    """What the kept states of a world hold: all bundles, all calls and returns that have not arrived, and all ends."""

    def __init__(self, world):
        places = _kept_places(world)
        bodies = [letter[3] for letter in _not_taken(places)]
        carried = [bundle for body in bodies if body[0] == "carry" for bundle in body[1]]
        bodies.extend([body for place in places for body in place.parked()])
        self._bundles = [bundle for place in places for bundle in place.bundles()] + carried
        self._calls = [body for body in bodies if body[0] == "call"]
        self._returns = [body for body in bodies if body[0] == "return"]
        self._ends = [end for place in places for end in place.ended()]

    def objects(self):
        """Returns the list of all objects: names, makers and fields."""
        return [bundle[:3] for bundle in self._bundles]

    def entries(self):
        """Returns the list of the entries of all bundles."""
        return [entry for bundle in self._bundles for entry in bundle[3]]

    def levels(self):
        """Returns the list of the processes and depths of all frames, those included that a call will make."""
        return [entry[:2] for entry in self.entries()] + [body[3:5] for body in self._calls]

    def held_tokens(self):
        """Returns the list of all tokens, each behind its process."""
        held = [(entry[0], entry[4]) for entry in self.entries() if entry[4] is not None]
        sent = [(body[3], body[-1]) for body in self._calls + self._returns]
        return held + sent + [end[:2] for end in self._ends]

    def processes(self):
        """Returns the ascending list of the processes."""
        return sorted({row[0] for row in self.levels() + self.held_tokens()})

    def frames_of_levels(self, image):
        """Returns a dict from processes and depths to the frames, each behind its object."""
        makers = {bundle[0]: bundle[1] for bundle in self._bundles}
        found = {}
        for bundle in self._bundles:
            for process, depth, frame, _, _, _ in bundle[3]:
                found[(process, depth)] = (bundle[0], frame)
        for _, name, _, process, depth, _, operation, arguments, _ in self._calls:
            found[(process, depth)] = (name, first_frame(image, makers[name], operation, arguments))
        for _, name, _, process, depth, value, _ in self._returns:
            found[(process, depth)] = (name, pushed(found[(process, depth)][1], value))
        return found

    def statuses(self):
        """Returns a dict from the processes that do not run to their statuses."""
        found = {entry[0]: ("fault", entry[5]) for entry in self.entries() if entry[5] != ""}
        for process, _, value in self._ends:
            found[process] = ("done", value)
        return found


def picture(world):
    """Returns the picture of a world."""
    scene = Scene(world)
    tokens = dict(scene.held_tokens())
    statuses = scene.statuses()
    found = scene.frames_of_levels(world.image())
    frames = {process: () for process in tokens}
    for process, depth in sorted(found):
        frames[process] = frames[process] + (found[(process, depth)],)
    processes = [(name, tokens[name], statuses.get(name, ("run",)), frames[name]) for name in scene.processes()]
    return tuple(sorted(scene.objects())), tuple(processes), world.prints()


def replayed(world):
    """Returns the state of the plain machine that has run from its beginning by the order of a world."""
    image = world.image()
    return run(image, begin(image), world.order())


def look(world):
    """Returns the list of the sentences about sound worlds that are not true of this one."""
    scene = Scene(world)
    levels = scene.levels()
    sentences = (
        ("place", _are_different([row[0] for row in scene.objects()])),
        ("token", sorted([row[0] for row in scene.held_tokens()]) == scene.processes()),
        ("depth", _are_different(levels)),
        ("rows", _are_without_gaps(levels)),
        ("ready", _are_different([process for p in range(world.places()) for process in world.present(p).ready()])),
    )
    return [word for word, holds in sentences if not holds]


def _are_different(values):
    return len(set(values)) == len(values)


def _are_without_gaps(levels):
    """Says whether each process has a frame of each depth below the greatest one that it has."""
    known = {level: True for level in levels}
    return all([depth == 0 or (process, depth - 1) in known for process, depth in levels])
