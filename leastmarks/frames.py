"""Frames: where the leaves of a function stand."""

from leastmarks.bodies import bodies_of


def frame(program, name):
    """The fewest slots of a function, and a dict from each of its leaves to its slot."""
    parameters, _, body = program.function(name)
    slotting = Slotting(program.leaves(name))
    end = 0
    for variable, _ in parameters:
        end = slotting.place_variable(variable, end)
    slotting.place_body(body, end)
    return (slotting.size, slotting.slots)


class Slotting:
    """Gives slots to the leaves of a function."""

    def __init__(self, leaves):
        self.slots = {}
        self.size = 0
        self.variables = {}
        for leaf in leaves:
            self.variables.setdefault(leaf[0], []).append(leaf)

    def place_variable(self, variable, begin):
        """Gives the leaves of a variable the slots from one on, and returns the slot behind them."""
        for slot, leaf in enumerate(self.variables[variable], start=begin):
            self.slots[leaf] = slot
        end = begin + len(self.variables[variable])
        self.size = max(self.size, end)
        return end

    def place_body(self, body, begin):
        """Gives all variables of a body slots from one on, the first that no variable around it has."""
        end = begin
        for statement in body:
            if statement[0] == "let":
                end = self.place_variable(statement[1], end)
            elif statement[0] == "match":
                self.place_arms(statement[2], end)
            else:
                for inner in bodies_of(statement):
                    self.place_body(inner, end)

    def place_arms(self, arms, begin):
        """Gives all variables of arms slots; that of an arm is in scope in this arm alone."""
        for variable, body in arms:
            end = begin if variable is None else self.place_variable(variable, begin)
            self.place_body(body, end)
