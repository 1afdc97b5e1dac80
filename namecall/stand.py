"""A stand in a term: one part of it, and all that lies round that part."""

from namecall.filling import filled
from namecall.parts import same

HOLE = ("hole",)


def is_spot(part):
    return part[0] == "call" and part[1][0] == "form"


# What lies round the part is kept as a list of forms and calls, the outermost first, each with a
# hole where the next one belongs. So a step costs no walk from the top of the term and back.
class Stand:
    def __init__(self, term):
        self.part = term
        self.above = []

    def leads_on(self, turn):
        if self.part[0] == "call":
            return turn == 0 or turn == 1
        return self.part[0] == "form" and turn == 0

    def go_down(self, turn):
        part = self.part
        if part[0] == "form":
            self.above.append(("form", HOLE))
        elif turn == 0:
            self.above.append(("call", HOLE, part[2]))
        else:
            self.above.append(("call", part[1], HOLE))
        self.part = part[1 + turn]

    def go_up(self):
        over = self.above.pop()
        if over[0] == "form":
            self.part = ("form", self.part)
        elif over[1] == HOLE:
            self.part = ("call", self.part, over[2])
        else:
            self.part = ("call", over[1], self.part)

    def go_to_top(self):
        while self.above:
            self.go_up()

    def is_called(self):
        return len(self.above) > 0 and self.above[-1][0] == "call" and self.above[-1][1] == HOLE

    # From a part with nothing more to look at to the next one in the order of paths.
    def go_on(self):
        while self.above:
            called = self.is_called()
            self.go_up()
            if called:
                self.go_down(1)
                return True
        return False

    # To the first step of the term, if no step lies above the part or ahead of it. Where there is
    # none, the stand is at the top afterwards.
    def find_spot(self):
        while not is_spot(self.part):
            if self.leads_on(0):
                self.go_down(0)
            elif not self.go_on():
                return False
        return True

    def do_step(self):
        self.part = filled(self.part[1][1], self.part[2])
        # Here alone a new step can arise outside of the part, and its path is ahead of those within.
        if self.part[0] == "form" and self.is_called():
            self.go_up()

    def copied(self):
        twin = Stand(self.part)
        twin.above = list(self.above)
        return twin

    def same_as(self, other):
        if len(self.above) != len(other.above) or not same(self.part, other.part):
            return False
        for mine, its in zip(self.above, other.above):
            if not same(mine, its):
                return False
        return True
