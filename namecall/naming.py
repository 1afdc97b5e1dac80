"""Named terms: told by numbers and back, compared, and put in the place of names."""

from namecall.errors import Outer
from namecall.filling import exchanged
from namecall.parts import built, has_outer, names_of, parts_of, same, walk
from namecall.words import free_words


# The words of the forms round a part are kept as a pair of the innermost one and those further out.
def told_by_number(part, around):
    number = 0
    while around is not None:
        if around[0] == part[1]:
            return ("place", number)
        number += 1
        around = around[1]
    return part


def numbered(term):
    found = walk(term, None, lambda form, around: (form[1], around))
    return built(found, told_by_number, lambda body, around: ("form", body))


def named(term):
    if has_outer(term):
        raise Outer("a place belongs to no form of the term")
    found = parts_of(term)
    # Forms one within the other have each a word of its own that no name has, so nothing is caught.
    words = free_words(max([forms for part, forms in found]), names_of(term))

    def told_by_word(part, forms):
        if part[0] == "place":
            return ("name", words[forms - 1 - part[1]])
        return part

    return built(found, told_by_word, lambda body, forms: ("form", words[forms], body))


def alike(one, other):
    return same(numbered(one), numbered(other))


def put(term, word, other):
    return named(exchanged(numbered(term), word, numbered(other)))
