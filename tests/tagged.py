"""Steps done at once, told in another way: each call bears its first path as a tag, and goes on bearing it."""


def tagged(term, path=()):
    if term[0] == "form":
        return ("form", tagged(term[1], path + (0,)))
    if term[0] == "call":
        return ("call", tagged(term[1], path + (0,)), tagged(term[2], path + (1,)), path)
    return term


def bare(term):
    if term[0] == "form":
        return ("form", bare(term[1]))
    if term[0] == "call":
        return ("call", bare(term[1]), bare(term[2]))
    return term


def raised(term, by, forms=0):
    if term[0] == "place":
        return ("place", term[1] + by) if term[1] >= forms else term
    if term[0] == "form":
        return ("form", raised(term[1], by, forms + 1))
    if term[0] == "call":
        return ("call", raised(term[1], by, forms), raised(term[2], by, forms), term[3])
    return term


def poured(body, term, forms=0):
    if body[0] == "place":
        if body[1] == forms:
            return raised(term, forms)
        return ("place", body[1] - 1) if body[1] > forms else body
    if body[0] == "form":
        return ("form", poured(body[1], term, forms + 1))
    if body[0] == "call":
        return ("call", poured(body[1], term, forms), poured(body[2], term, forms), body[3])
    return body


def developed(term, tags):
    """The tagged term with all calls that bear one of the tags done, from within outwards in one go."""
    if term[0] == "form":
        return ("form", developed(term[1], tags))
    if term[0] != "call":
        return term
    if term[3] in tags:
        return poured(developed(term[1][1], tags), developed(term[2], tags))
    return ("call", developed(term[1], tags), developed(term[2], tags), term[3])


def bearers(term, tags, path=()):
    """The paths of the calls that bear one of the tags."""
    if term[0] == "form":
        return bearers(term[1], tags, path + (0,))
    if term[0] != "call":
        return []
    here = [list(path)] if term[3] in tags else []
    return here + bearers(term[1], tags, path + (0,)) + bearers(term[2], tags, path + (1,))


def tags_of(paths):
    return {tuple(path) for path in paths}


def at_once_told(term, paths):
    return bare(developed(tagged(term), tags_of(paths)))


def left_told(term, paths, done):
    return bearers(developed(tagged(term), tags_of(done)), tags_of(paths))
