"""Several steps of a term done at once, and what is left of some steps behind others."""

from namecall.parts import parts_of, paths_of
from namecall.steps import spots, stand_at


# Each path is asked of the term as it was handed in: behind one of these steps a new step may stand
# where there was none.
def check(term, paths):
    for path in paths:
        stand_at(term, path)


# A step changes nothing but what is at its path or below, so none moves one that is still to be done.
def walked(term, paths):
    check(term, paths)
    return [list(path) for path in sorted(paths, key=len, reverse=True)]


# The paths within a body of the places that belong to its form.
def own_places(body):
    return [path for pair, path in zip(parts_of(body), paths_of(body)) if pair[0] == ("place", pair[1])]


# Where the calls at the paths stand behind the step at `spot`, a step of the form with that body.
def moved(paths, spot, body):
    deep = len(spot)
    found = [path for path in paths if path[:deep] != spot]
    # The form itself is no call, so a path that leads to it leads on into its body.
    found.extend([spot + path[deep + 2:] for path in paths if path[:deep + 1] == spot + [0]])
    copied = [path[deep + 1:] for path in paths if path[:deep + 1] == spot + [1]]
    if copied:
        for place in own_places(body):
            found.extend([spot + place + below for below in copied])
    return found


# The term behind the steps of `done`, and what is left of `paths` there.
def behind(term, paths, done):
    check(term, paths)
    left = [list(path) for path in paths]
    for spot in walked(term, done):
        stand = stand_at(term, spot)
        left = moved(left, spot, stand.part[1][1])
        stand.do_step()
        stand.go_to_top()
        term = stand.part
    return (term, sorted(left))


def at_once(term, paths):
    return behind(term, [], paths)[0]


def left_of(term, paths, done):
    return behind(term, paths, done)[1]


def all_at_once(term):
    return at_once(term, spots(term))
