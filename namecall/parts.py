"""The parts of a term, and what can be told of a term by looking at each of them.

Terms can be nested deeper than calls of functions may be, so they are walked with a list of
what is still to do, here and elsewhere in the package.
"""


# Each part with what is told of the forms round it, in the order of the parts' paths: `around` is told
# of the whole term, `inward(form, around)` of a form's body. Named terms can be walked so too.
def walk(term, around, inward):
    found = []
    todo = [(term, around)]
    while todo:
        pair = todo.pop()
        found.append(pair)
        part = pair[0]
        if part[0] == "form":
            todo.append((part[-1], inward(part, pair[1])))
        elif part[0] == "call":
            todo.append((part[2], pair[1]))
            todo.append((part[1], pair[1]))
    return found


# What a walk found, put together again: `leaf(part, around)` stands instead of each name and place, and
# `over(body, around)` instead of each form, `body` being what its body has become.
def built(found, leaf, over):
    ready = []
    # Backwards a part comes up just when its own parts are the last ones that were made ready.
    for part, around in reversed(found):
        if part[0] == "form":
            ready.append(over(ready.pop(), around))
        elif part[0] == "call":
            one = ready.pop()
            ready.append(("call", one, ready.pop()))
        else:
            ready.append(leaf(part, around))
    return ready.pop()


# Each part with how many forms of the term lie round it.
def parts_of(term):
    return walk(term, 0, lambda form, forms: forms + 1)


# The paths of the parts, in the order in which the parts are walked.
def paths_of(term):
    found = []
    todo = [(term, [])]
    while todo:
        pair = todo.pop()
        part = pair[0]
        path = pair[1]
        found.append(path)
        if part[0] == "call":
            todo.append((part[2], path + [1]))
        if part[0] == "call" or part[0] == "form":
            todo.append((part[1], path + [0]))
    return found


def is_outer(part, forms):
    return part[0] == "place" and part[1] >= forms


def names_of(term):
    return sorted(set([part[1] for part, forms in parts_of(term) if part[0] == "name"]))


def has_outer(term):
    return any([is_outer(part, forms) for part, forms in parts_of(term)])


# Stands in for `==`, which fails on terms that are nested deeply.
def same(one, other):
    todo = [(one, other)]
    while todo:
        pair = todo.pop()
        left = pair[0]
        right = pair[1]
        if left[0] != right[0]:
            return False
        if left[0] == "name" or left[0] == "place":
            if left[1] != right[1]:
                return False
        else:
            todo.extend(list(zip(left[1:], right[1:], strict=True)))
    return True
