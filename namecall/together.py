"""Two ways from one term, led on to one common term."""

from namecall.atonce import at_once, behind, left_of


# A way of single steps as one of sets of steps.
def in_sets(way):
    return [[list(path)] for path in way]


def end_of(term, way):
    for each in way:
        term = at_once(term, each)
    return term


# A set of steps led along a way of sets: what is left of the set at the way's end, and the way that is
# left behind the set.
def led_along(term, some, way):
    beside = []
    for each in way:
        beside.append(left_of(term, each, some))
        pair = behind(term, some, each)
        term = pair[0]
        some = pair[1]
    return (some, beside)


def come_together(term, first, second):
    way = in_sets(first)
    sets = []
    for each in in_sets(second):
        pair = led_along(term, each, way)
        sets.append(pair[0])
        way = pair[1]
        term = at_once(term, each)
    return (end_of(term, way), sets, way)
