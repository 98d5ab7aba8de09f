"""Collecting: the rounds, led by place 0, in which objects that no process can reach are dropped.

The notes of place 0 are () in front of the first round, and then (round, wave, reports): the last round, its wave, 0 if
it is over, and the reports of the other places that have come so far, as pairs of the place and its report.
"""

from portage.errors import NotAllowed
from portage.trim import led_to, references


def report(place):
    """Returns what a place tells of itself: its bundles, what waits there, and how many working letters it has seen."""
    waiting = []
    for body in place.parked():
        waiting.extend(_waited_for(body))
    others = range(place.places())
    given = [place.given(other) for other in others]
    taken = [place.taken(other) for other in others]
    rows = [_row(bundle) for bundle in place.bundles()]
    return tuple(rows), tuple(sorted(set(waiting))), tuple(given), tuple(taken)


def _row(bundle):
    """Returns the row of a bundle in a report."""
    name, _, fields, entries, _ = bundle
    frames = None
    if len(entries) > 0:
        values = []
        for entry in entries:
            _, _, held, stack = entry[2]
            values.extend(held + stack)
        frames = tuple(references(values))
    return name, tuple(references(fields)), frames


def _waited_for(body):
    """Returns the list of the objects that a parked body will reach once it arrives."""
    if body[0] == "call":
        return [body[1]] + references(body[7])
    if body[0] == "return":
        return [body[1]] + references((body[5],))
    return []


def agree(reports):
    """Says whether any two places have given and taken the same numbers of letters; one report for each place."""
    numbers = range(len(reports))
    return all([reports[p][2][q] == reports[q][3][p] for p in numbers for q in numbers if p != q])


def unheld(reports):
    """Returns the ascending tuple of the names of the objects in the rows that nothing holds."""
    leads = {}
    starts = []
    for rows, waiting, _, _ in reports:
        starts.extend(waiting)
        for name, fields, frames in rows:
            leads[name] = fields
            if frames is not None:
                starts.append(name)
                starts.extend(frames)
    held = {name: True for name in led_to(starts, leads)}
    return tuple([name for name in sorted(leads) if name not in held])


def start_round(place):
    """Begins a round at place 0."""
    if place.stopped() != 0:
        raise NotAllowed("a round goes on already")
    notes = place.notes()
    turn = 1 if notes == () else notes[0] + 1
    place.stop(turn)
    _begin_wave(place, turn, 1)
    if place.places() == 1:
        _look(place)


def _begin_wave(place, turn, wave):
    """Asks all other places to stop and to tell what they have."""
    place.note((turn, wave, ()))
    _give_to_all(place, ("stop", turn, wave))


def _give_to_all(place, body):
    """Gives a body to the post for each place but 0."""
    for other in range(1, place.places()):
        place.give(other, body)


def control(place, sender, body):
    """Does what a body of a round asks. (From whom it comes can be told from the body itself, too.)"""
    word = body[0]
    if word == "stop":
        _, turn, wave = body
        place.stop(turn)
        place.give(0, ("told", turn, wave, place.me(), report(place)))
    elif word == "told":
        _hear(place, body)
    else:
        _, turn, names = body
        place.drop(list(names))
        if place.stopped() == turn:
            place.stop(0)


def _hear(place, body):
    """Keeps a report at place 0 if it belongs to its wave, and looks once all have come."""
    _, turn, wave, other, told = body
    if place.notes()[:2] != (turn, wave):
        return
    reports = [row for row in place.notes()[2] if row[0] != other] + [(other, told)]
    place.note((turn, wave, tuple(sorted(reports))))
    if len(reports) == place.places() - 1:
        _look(place)


def _look(place):
    """Ends the round at place 0 if the reports agree; otherwise begins the next wave."""
    turn, wave, told = place.notes()
    reports = [report(place)] + [row[1] for row in told]
    if not agree(reports):
        _begin_wave(place, turn, wave + 1)
        return
    names = unheld(reports)
    _give_to_all(place, ("drop", turn, names))
    place.drop(list(names))
    place.stop(0)
    place.note((turn, 0, ()))
