"""Scripts: lines that build a world and let it go on, with an answer to each of them."""

from portage.checks import check_program
from portage.compiler import compile_program
from portage.errors import BadForm, BadKind, NotAllowed, TooLarge
from portage.lines import read_command
from portage.names import object_text, process_text
from portage.picture import look, picture, replayed
from portage.reader import read_program
from portage.settle import MAX_ROUNDS, balance, is_quiet, settle
from portage.texts import value_text
from portage.trim import trim
from portage.world import World

MAX_CHARACTERS = 8000
MAX_LINES = 200
EVENTS = ("work", "commit", "send", "deliver", "fall", "push", "gather")


def run_script(script):
    """Runs the lines of a script on a new desk; returns the list of the answers."""
    lines = script.split("\n")
    if len(script) > MAX_CHARACTERS or len(lines) > MAX_LINES:
        raise NotAllowed("the script is too long")
    desk = Desk()
    return [desk.answer(line) for line in lines]


class Desk:
    """The lines of a source, and the world of the last source that was good."""

    def __init__(self):
        self._source = []
        self._world = None

    def answer(self, line):
        """Does what a line asks; returns the answer."""
        command = read_command(line)
        if command is None:
            return "bad"
        if command == ():
            return ""
        word = command[0]
        if word == "line":
            self._source.append(command[1])
            return "ok"
        if word == "begin":
            return self._begin(command[1])
        if self._world is None:
            return "missing"
        if word in EVENTS:
            return self._event(command)
        if word == "ready" or word == "at":
            return self._at_place(word, command[1])
        if word == "settle" or word == "balance":
            return self._whole(word)
        return _told(word, self._world)

    def _begin(self, places):
        """Begins a new world with the source; only then the source is used up."""
        try:
            program = read_program("".join([line + "\n" for line in self._source]))
            check_program(program)
            self._world = World(compile_program(program), places)
        except BadForm as bad_form:
            return f"form {bad_form.line}"
        except TooLarge:
            return "large"
        except BadKind as bad_kind:
            return f"kind {bad_kind.place}"
        except NotAllowed:
            return "refused"
        self._source = []
        return "ok"

    def _event(self, event):
        """Lets an event happen, if it can."""
        if not self._world.can(event):
            return "refused"
        self._world.do(event)
        return "ok"

    def _at_place(self, word, p):
        """Tells what is at a place now."""
        if p >= self._world.places():
            return "refused"
        place = self._world.present(p)
        if word == "ready":
            return _listed([process_text(process) for process in place.ready()])
        return _listed([object_text(bundle[0]) for bundle in place.bundles()])

    def _whole(self, word):
        """Settles or balances the world; returns how much was done."""
        if word == "balance":
            return str(balance(self._world))
        made = settle(self._world, MAX_ROUNDS)
        return str(made) if is_quiet(self._world) else "large"


def _told(word, world):
    """Returns what a word asks to know of a world."""
    if word == "air":
        return str(len(world.air()))
    if word == "order":
        return str(len(world.order()))
    if word == "prints":
        return _listed([f"{process_text(process)}={value_text(value)}" for process, value in world.prints()])
    if word == "processes":
        return _listed([_process_told(row) for row in picture(world)[1]])
    if word == "look":
        wrong = look(world)
        return " ".join(wrong) if len(wrong) > 0 else "sound"
    return "yes" if trim(picture(world)) == trim(replayed(world)) else "no"


def _process_told(row):
    """Returns the name of a process, and what has become of it."""
    process, _, status, _ = row
    if status[0] == "done":
        return f"{process_text(process)}={value_text(status[1])}"
    return f"{process_text(process)}={status[-1]}"


def _listed(texts):
    """Returns texts as a list in an answer."""
    return " ".join(texts) if len(texts) > 0 else "-"
