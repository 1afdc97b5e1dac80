"""Steps: where they can be done, a single one, and a term led on by fuel."""

from namecall.errors import NoStep
from namecall.parts import parts_of, paths_of
from namecall.stand import Stand, is_spot


def spots(term):
    return [path for pair, path in zip(parts_of(term), paths_of(term)) if is_spot(pair[0])]


# A stand at the call of the step with that path.
def stand_at(term, path):
    stand = Stand(term)
    for turn in path:
        if not stand.leads_on(turn):
            raise NoStep("the path leads nowhere")
        stand.go_down(turn)
    if not is_spot(stand.part):
        raise NoStep("no call of a form stands at the path")
    return stand


def step(term, path):
    stand = stand_at(term, path)
    stand.do_step()
    stand.go_to_top()
    return stand.part


# Fuel may be a number far beyond the steps that can be done one by one. Where the term comes back to
# what it was, whole rounds are left out: it is held against a mark, which is set anew ever more rarely,
# so that a round of whatever length behind whatever beginning is found.
def led(term, fuel):
    stand = Stand(term)
    many = 0
    mark = None
    marked = 0
    while stand.find_spot():
        if mark is not None and stand.same_as(mark):
            fuel = many + (fuel - many) % (many - marked)
        if many == fuel:
            stand.go_to_top()
            return ("on", stand.part)
        if mark is None or many > 2 * marked:
            mark = stand.copied()
            marked = many
        stand.do_step()
        many += 1
    return ("end", stand.part, many)
