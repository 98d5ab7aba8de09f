"""Bundles that are carried together."""

from portage.compiler import maker_of
from portage.trim import references


def goes_with(image, bundles, name):
    """Returns the ascending tuple of the names of the bundles that go with one; `bundles` is a dict by their names."""
    found = {}
    pending = [name]
    while len(pending) > 0:
        other = pending.pop()
        if other in bundles and other not in found:
            found[other] = True
            pending.extend(_attached(image, bundles[other]))
    return tuple(sorted(found))


def _attached(image, bundle):
    """Returns the list of the objects to which the attached fields of a bundle refer."""
    return references([bundle[2][k] for k in maker_of(image, bundle[1])[3]])


def lifted(bundle):
    """Returns the bundle with a count that is greater by 1."""
    return bundle[:4] + (bundle[4] + 1,)
