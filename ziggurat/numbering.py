"""The numbers of switches, and of the rules of a program."""

from ziggurat.shapes import EXPRESSION_PLACES, KINDS, SHAPES


def switch_number(level, kind):
    """Return the number of the switch of a level and a kind."""
    return 9 * level + KINDS.index(kind)


class Rules:
    """The rules of a program, numbered in the order in which their rule and keep expressions begin in its text.

    numbered is the program with ("set", switch, number, body) and ("put",
    switch, number) where it has rule and keep; the rules are in rows, a dict of
    lists of pairs (number, rule) by the switch, ascending. asked is a dict of
    dicts by the switch; in these are the numbers of the parts, and "usual", for
    which some rule of the switch asks.
    """

    def __init__(self, program):
        self.many = 0
        self.rows = {}
        self.asked = {}
        self.numbered = self._number(program, 0, 0)

    def _number(self, node, level, about):
        """Number the rules in an expression; about is the switch that the rule around it is for."""
        if node[0] in ("rule", "keep"):
            return self._number_rule(node, level, about)
        if node[0] in ("part", "usual"):
            self.asked[about][node[-1]] = True
        things = [node[0]]
        for place, thing in zip(SHAPES[node[0]], node[1:]):
            if place in EXPRESSION_PLACES:
                things.append(self._number(thing, level, about))
            elif place == "parts":
                things.append(tuple([self._number(part, level, about) for part in thing]))
            else:
                things.append(thing)
        return tuple(things)

    def _number_rule(self, node, level, about):
        """Number the rule of a rule or keep expression, and the rules in it."""
        self.many += 1
        number = self.many
        switch = switch_number(level, node[1])
        self.asked.setdefault(switch, {})
        rule = self._number(node[2], level + 1, switch)
        self.rows.setdefault(switch, []).append((number, rule))
        if node[0] == "keep":
            return ("put", switch, number)
        return ("set", switch, number, self._number(node[3], level, about))
