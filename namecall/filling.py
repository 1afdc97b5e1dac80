"""Terms raised, filled into bodies, and put in the place of names."""

from namecall.parts import built, is_outer, parts_of


# The term with `change(part, forms)` instead of each name and place, `forms` of it lying round it.
def rebuilt(term, change):
    return built(parts_of(term), change, lambda body, forms: ("form", body))


def lifted(term, by):
    def raised(part, forms):
        if is_outer(part, forms):
            return ("place", part[1] + by)
        return part

    # The same term is given back, so that what is filled in under no form need not be copied.
    if by == 0:
        return term
    return rebuilt(term, raised)


# A term that may be wanted many times: it is raised only once by each number.
class Raised:
    def __init__(self, term):
        self.term = term
        self.ready = {}

    def by(self, forms):
        if forms not in self.ready:
            self.ready[forms] = lifted(self.term, forms)
        return self.ready[forms]


def filled(body, term):
    raised = Raised(term)

    def fill(part, forms):
        if not is_outer(part, forms):
            return part
        if part[1] == forms:
            return raised.by(forms)
        return ("place", part[1] - 1)

    return rebuilt(body, fill)


def exchanged(term, word, other):
    raised = Raised(other)

    def exchange(part, forms):
        if part[0] == "name" and part[1] == word:
            return raised.by(forms)
        return part

    return rebuilt(term, exchange)
