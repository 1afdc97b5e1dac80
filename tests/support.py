"""What several tests use: short ways to make terms, and a second way to tell what a term is."""

import random


def name(word):
    return ("name", word)


def place(number):
    return ("place", number)


def form(body, many=1):
    for turn in range(many):
        body = ("form", body)
    return body


def call(one, *others):
    for other in others:
        one = ("call", one, other)
    return one


def numeral(many):
    """A form that does something as many times: f, x: f(f(..(x)))."""
    body = place(0)
    for turn in range(many):
        body = call(place(1), body)
    return form(body, 2)


SAME = form(place(0))
FIRST = form(form(place(1)))
TWICE = form(call(place(0), place(0)))
THRICE = form(call(place(0), place(0), place(0)))
ENDLESS = call(TWICE, TWICE)
GROWING = call(THRICE, THRICE)


def flat(term):
    """The term as a list, which compares however deep the term is nested."""
    found = []
    todo = [term]
    while todo:
        part = todo.pop()
        if not isinstance(part, tuple):
            raise AssertionError("a part is no tuple")
        found.append(part[0])
        if part[0] in ("name", "place"):
            kind, value = part
            found.append(value)
        elif part[0] == "form":
            kind, body = part
            todo.append(body)
        else:
            kind, one, other = part
            if kind != "call":
                raise AssertionError("a part is of no kind")
            todo += [other, one]
    return found


def size(term):
    return len([value for value in flat(term) if value in ("name", "place", "form", "call")])


def told(term, path=(), owners=()):
    """Each path with what stands there, a place by the path of the form it belongs to.

    An outer place is told by how far out it is beyond the whole term.
    """
    kind = term[0]
    if kind == "name":
        return {path: term}
    if kind == "place":
        if term[1] < len(owners):
            return {path: ("of", owners[term[1]])}
        return {path: ("outer", term[1] - len(owners))}
    found = {path: (kind,)}
    if kind == "form":
        found.update(told(term[1], path + (0,), (path,) + owners))
    else:
        found.update(told(term[1], path + (0,), owners))
        found.update(told(term[2], path + (1,), owners))
    return found


def moved(what, old, new):
    """What stood below the path `old`, as it is told below the path `new`."""
    if what[0] == "of" and what[1][: len(old)] == old:
        return ("of", new + what[1][len(old):])
    return what


def grafted(parts, path):
    return {path + below: moved(what, (), path) for below, what in parts.items()}


def terms(parts, leaves):
    """All terms with that many parts."""
    if parts == 1:
        return list(leaves)
    found = [form(body) for body in terms(parts - 1, leaves)]
    for ones in range(1, parts - 1):
        others = terms(parts - 1 - ones, leaves)
        found += [call(one, other) for one in terms(ones, leaves) for other in others]
    return found


def terms_up_to(parts, leaves):
    return [term for many in range(1, parts + 1) for term in terms(many, leaves)]


def grown(seed, parts, leaves):
    """One term with that many parts, the same for the same seed."""
    chance = random.Random(seed)
    todo = [parts]
    order = []
    while todo:
        many = todo.pop()
        if many == 1:
            order.append(chance.choice(leaves))
        elif many == 2 or chance.random() < 0.3:
            order.append("form")
            todo.append(many - 1)
        else:
            ones = chance.randint(1, many - 2)
            order.append("call")
            todo += [many - 1 - ones, ones]
    ready = []
    for part in reversed(order):
        if part == "form":
            ready.append(form(ready.pop()))
        elif part == "call":
            ready.append(call(ready.pop(), ready.pop()))
        else:
            ready.append(part)
    return ready.pop()
