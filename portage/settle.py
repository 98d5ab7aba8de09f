"""Letting worlds come to rest, and spreading their bundles."""

MAX_BURST = 40
MAX_ROUNDS = 60


def is_quiet(world):
    """Says whether nothing is left to do in a world."""
    return all([_is_place_quiet(world, p) for p in range(world.places())])


def _is_place_quiet(world, p):
    place = world.present(p)
    if len(place.ready()) > 0 or len(place.outbox()) > 0 or len(place.burst()) > 0 or place.stopped() != 0:
        return False
    return place.state() == world.kept(p).state()


def settle(world, rounds):
    """Goes through rounds until a world is quiet, but at most so many; returns how many there were."""
    made = 0
    while made < rounds and not is_quiet(world):
        _make_round(world)
        made += 1
    return made


def _make_round(world):
    """Lets all places work and send, and then all take what was sent in this round."""
    before = len(world.air())
    for p in range(world.places()):
        _work_at(world, p)
        world.do(("commit", p))
        world.do(("send", p))
    for k in range(before, len(world.air())):
        world.do(("deliver", k))
    for p in range(world.places()):
        world.do(("commit", p))


def _work_at(world, p):
    """Lets the least process that is ready work, again and again."""
    # The works are tried on a copy, which tells who is ready next.
    place = world.present(p)
    for _ in range(MAX_BURST):
        waiting = place.ready()
        if place.stopped() != 0 or len(waiting) == 0:
            return
        place.work(waiting[0])
        world.do(("work", p, waiting[0]))


def balance(world):
    """Pushes bundles from the places that have most of them; returns the number of pushes."""
    pushed = {}
    while True:
        loads = [len(world.present(p).bundles()) for p in range(world.places())]
        if max(loads) - min(loads) < 2:
            return len(pushed)
        full = loads.index(max(loads))
        name = world.present(full).bundles()[0][0]
        event = ("push", full, name, loads.index(min(loads)))
        if name in pushed or not world.can(event):
            return len(pushed)
        world.do(event)
        pushed[name] = True
