"""The plain machine at work: a state that is changed step by step."""

from portage.errors import Missing, NotAllowed
from portage.micro import first_fields, first_frame, micro, pushed


class Process:
    """A process: how many objects and processes it has made, its status, and the list of its frames."""

    def __init__(self, news, forks, status, frames):
        self.news = news
        self.forks = forks
        self.status = status
        self.frames = frames


class Machine:
    """The objects, processes and prints of a state, ready to go on."""

    def __init__(self, image, state):
        objects, processes, prints = state
        self._image = image
        self._objects = {name: (maker, fields) for name, maker, fields in objects}
        self._processes = {}
        for name, (news, forks), status, frames in processes:
            self._processes[name] = Process(news, forks, status, list(frames))
        self._printed = list(prints)

    def state(self):
        """Returns the state as a tuple."""
        objects = [(name,) + self._objects[name] for name in sorted(self._objects)]
        processes = []
        for name in sorted(self._processes):
            process = self._processes[name]
            processes.append((name, (process.news, process.forks), process.status, tuple(process.frames)))
        return tuple(objects), tuple(processes), tuple(self._printed)

    def running(self):
        """Returns the list of the names of the processes that run, ascending."""
        return [name for name in sorted(self._processes) if self._processes[name].status == ("run",)]

    def step(self, name):
        """Makes a step of a process."""
        if name not in self._processes:
            raise Missing("there is no such process")
        process = self._processes[name]
        if process.status != ("run",):
            raise NotAllowed("the process does not run")
        owner, frame = process.frames[-1]
        maker, fields = self._objects[owner]
        result = micro(self._image, maker, owner, fields, frame)
        word = result[0]
        if word == "fault":
            process.status = result
        elif word == "return":
            self._return(process, result[1])
        elif word == "next":
            process.frames[-1] = (owner, result[1])
            self._objects[owner] = (maker, result[2])
        else:
            process.frames[-1] = (owner, result[-1])
            self._carry_out(name, process, result)

    def _return(self, process, value):
        """Takes away the last frame, and hands its value to the one that called it."""
        process.frames.pop()
        if len(process.frames) == 0:
            process.status = ("done", value)
        else:
            owner, frame = process.frames[-1]
            process.frames[-1] = (owner, pushed(frame, value))

    def _carry_out(self, name, process, result):
        """Does what an instruction asks beyond its own frame, which stands behind it already."""
        word = result[0]
        if word == "print":
            self._printed.append((name, result[1]))
        elif word == "new":
            self._make(name, process, result[1], result[2])
        elif word == "call":
            process.frames.append(self._called(result))
        elif word == "fork":
            self._processes[name + (process.forks,)] = Process(0, 0, ("run",), [self._called(result)])
            process.forks += 1

    def _make(self, name, process, maker, arguments):
        """Makes an object, and pushes its reference."""
        made = (name, process.news)
        self._objects[made] = (maker, first_fields(self._image, maker, arguments))
        process.news += 1
        owner, frame = process.frames[-1]
        process.frames[-1] = (owner, pushed(frame, ("ref", made)))

    def _called(self, result):
        """Returns the first frame of a call or a fork, with its receiver in front."""
        _, receiver, operation, arguments, _ = result
        return receiver, first_frame(self._image, self._objects[receiver][0], operation, arguments)
