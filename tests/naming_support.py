"""What the tests of named terms and of lines use: short ways to make them, and a second way to tell them."""

import random


def under(words, body):
    """Forms one within the other, the outermost word first."""
    for word in reversed(words):
        body = ("form", word, body)
    return body


def told_named(term, path=(), owners=None):
    """Each path with what stands there, a name that belongs to a form by that form's path."""
    owners = owners or {}
    kind = term[0]
    if kind == "name":
        return {path: ("of", owners[term[1]]) if term[1] in owners else term}
    found = {path: (kind,)}
    if kind == "form":
        found.update(told_named(term[2], path + (0,), {**owners, term[1]: path}))
    else:
        found.update(told_named(term[1], path + (0,), owners))
        found.update(told_named(term[2], path + (1,), owners))
    return found


def named_terms(parts, words):
    """All named terms with that many parts and these words."""
    if parts == 1:
        return [("name", word) for word in words]
    found = [("form", word, body) for word in words for body in named_terms(parts - 1, words)]
    for ones in range(1, parts - 1):
        others = named_terms(parts - 1 - ones, words)
        found += [("call", one, other) for one in named_terms(ones, words) for other in others]
    return found


def named_up_to(parts, words):
    return [term for many in range(1, parts + 1) for term in named_terms(many, words)]


def grown_named(seed, parts, words):
    """One named term with that many parts, the same for the same seed."""
    chance = random.Random(seed)

    def grow(many):
        if many == 1:
            return ("name", chance.choice(words))
        if many == 2 or chance.random() < 0.5:
            return ("form", chance.choice(words), grow(many - 1))
        ones = chance.randint(1, many - 2)
        return ("call", grow(ones), grow(many - 1 - ones))

    return grow(parts)


def flat_named(term):
    """The named term as a list, which compares however deep it is nested; fails where it is none."""
    found = []
    todo = [term]
    while todo:
        part = todo.pop()
        if not isinstance(part, tuple) or len(part) != {"name": 2, "form": 3, "call": 3}[part[0]]:
            raise AssertionError("a part is of no kind")
        found.append(part[0])
        if part[0] != "call":
            word = part[1]
            if not isinstance(word, str) or not word or word.strip("abcdefghijklmnopqrstuvwxyz"):
                raise AssertionError("a word is none")
            found.append(word)
        todo += [inner for inner in part[1:] if isinstance(inner, tuple)][::-1]
    return found


def straight_named(many):
    """Named terms nested straight: in forms of one word, in forms of several words, and in calls on each side."""
    left = right = ("name", "a")
    for turn in range(many):
        left = ("call", left, ("name", "b"))
        right = ("call", ("name", "b"), right)
    words = ["w" + "abcdefghij"[turn % 10] for turn in range(many)]
    return [under(["a"] * many, ("name", "a")), under(words, ("name", "wa")), left, right]
