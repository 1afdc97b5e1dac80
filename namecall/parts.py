"""The parts of a term, and what can be told of a term by looking at each of them.

Terms can be nested deeper than calls of functions may be, so they are walked with a list of
what is still to do, here and elsewhere in the package.
"""


# Each part with how many forms of the term lie round it, in the order of the parts' paths.
def parts_of(term):
    found = []
    todo = [(term, 0)]
    while todo:
        pair = todo.pop()
        found.append(pair)
        part = pair[0]
        forms = pair[1]
        if part[0] == "form":
            todo.append((part[1], forms + 1))
        elif part[0] == "call":
            todo.append((part[2], forms))
            todo.append((part[1], forms))
    return found


def is_outer(part, forms):
    return part[0] == "place" and part[1] >= forms


def names_of(term):
    return sorted(set([part[1] for part, forms in parts_of(term) if part[0] == "name"]))


def has_outer(term):
    return any([is_outer(part, forms) for part, forms in parts_of(term)])


# Stands in for `==`, which fails on terms that are nested deeply.
def same(one, other):
    todo = [(one, other)]
    while todo:
        pair = todo.pop()
        left = pair[0]
        right = pair[1]
        if left[0] != right[0]:
            return False
        if left[0] == "name" or left[0] == "place":
            if left[1] != right[1]:
                return False
        else:
            todo.extend(list(zip(left[1:], right[1:], strict=True)))
    return True
