"""Programs drawn by chance, and a slow reckoning of their runs that follows [11] line by line."""

import fractions
import math

SIGNS = ("+", "-", "*", "/", "<", "=")


class Drawing:
    """Lines that are drawn one behind another; each list of them is a program."""

    def __init__(self, drawn, names=("a", "b", "n"), mines=0, numbers=(0, 1, 1, 2, 3, 7, 8, 4095)):
        self.drawn, self.names, self.mines, self.numbers = drawn, names, mines, numbers
        self.is_within_while = False

    def plain(self):
        if self.drawn.random() < 0.65:
            return self.drawn.choice(self.names)
        return str(self.drawn.choice(self.numbers))

    def worth(self):
        kind = self.drawn.random()
        if self.mines and kind < 0.4:
            self.mines -= 1
            return "mine " + self.plain()
        if kind < 0.45:
            return self.plain()
        if kind < 0.6:
            return "at " + self.plain()
        sign = self.drawn.choice(SIGNS)
        # Squares of squares, round by round, would get too large.
        other = str(self.drawn.choice(self.numbers)) if sign == "*" and self.is_within_while else self.plain()
        return " ".join((self.plain(), sign, other))

    def simple_line(self):
        kind = self.drawn.choice(("hear", "say", "say", "let", "let", "let", "keep", "keep"))
        if kind == "hear":
            return "hear " + self.drawn.choice(self.names)
        if kind == "say":
            return "say " + self.worth()
        if kind == "let":
            return " ".join(("let", self.drawn.choice(self.names), self.worth()))
        return " ".join(("keep", self.plain(), self.worth()))

    def opened(self):
        """A line that opens a fold, and the name that rounds of it count down, if it does."""
        if self.drawn.random() < 0.5:
            return "if " + self.plain(), None
        if self.drawn.random() < 0.15:
            return "while " + self.plain(), None
        name = self.drawn.choice(self.names)
        return "while " + name, name if self.drawn.random() < 0.8 else None

    def lines(self, most):
        """So many lines at most, all folds being closed."""
        lines = []
        if most > 6:
            lines.append("hear " + self.drawn.choice(self.names))
            lines.append("let {} {}".format(self.drawn.choice(self.names), self.drawn.randint(1, 4)))
        folds = []
        while len(lines) + 2 * len(folds) < most:
            kind = self.drawn.random()
            self.is_within_while = "while" in [word for word, _ in folds]
            if kind < 0.25 and len(folds) < 6 and len(lines) + 2 * len(folds) + 3 <= most:
                line, name = self.opened()
                folds.append((line.split(" ")[0], name))
                lines.append(line)
            elif kind < 0.4 and folds:
                lines += self.closed(folds.pop())
            elif kind < 0.48 and folds and folds[-1][0] == "if":
                lines.append("else")
                folds[-1] = ("else", None)
            elif kind < 0.49:
                lines.append("stop")
            else:
                lines.append(self.simple_line())
        while folds:
            lines += self.closed(folds.pop())
        return lines

    def closed(self, fold):
        return ["end"] if fold[1] is None else ["let {} {} - 1".format(fold[1], fold[1]), "end"]


class Stopped(Exception):
    pass


class SlowRun:
    """A run by way of the folds, each of which is a tree of lines: so no partners are wanted."""

    def __init__(self, lines, heard, own=()):
        self.heard, self.own = list(heard), list(own)
        self.names, self.places, self.said, self.trace = {}, {}, [], []
        self.items = [line.split(" ") for line in lines]
        self.tree, behind = self.block(0)
        assert behind == len(lines)

    def block(self, line):
        """The nodes (line, body, other body) from a line on, and the line at which they end."""
        nodes = []
        while line < len(self.items) and self.items[line][0] not in ("else", "end"):
            if self.items[line][0] in ("while", "if"):
                body, behind = self.block(line + 1)
                other = []
                if self.items[behind][0] == "else":
                    other, behind = self.block(behind + 1)
                nodes.append((line, body, other))
                line = behind + 1
            else:
                nodes.append((line, [], []))
                line += 1
        return nodes, line

    def plain(self, item):
        return int(item) if item.isdigit() else self.names.get(item, 0)

    def worth(self, items):
        if len(items) == 1:
            return self.plain(items[0])
        if items[0] == "at":
            return self.places.get(self.plain(items[1]), 0)
        if items[0] == "mine":
            place = self.plain(items[1])
            return dict(enumerate(self.own)).get(place, -1)
        one, other = self.plain(items[0]), self.plain(items[2])
        return {
            "+": lambda: one + other, "-": lambda: one - other, "*": lambda: one * other,
            "/": lambda: math.floor(fractions.Fraction(one, other)) if other else 0,
            "<": lambda: 1 if one < other else 0, "=": lambda: 1 if one == other else 0,
        }[items[1]]()

    def steps(self, nodes):
        """Yields each line ahead of its step."""
        for line, body, other in nodes:
            items = self.items[line]
            yield line
            if items[0] == "while":
                while self.plain(items[1]) != 0:
                    yield from self.steps(body)
                    yield line
            elif items[0] == "if":
                yield from self.steps(body if self.plain(items[1]) != 0 else other)
            elif items[0] == "stop":
                raise Stopped
            elif items[0] == "hear":
                self.names[items[1]] = self.heard.pop(0) if self.heard else 0
            elif items[0] == "say":
                self.said.append(self.worth(items[1:]))
            elif items[0] == "let":
                self.names[items[1]] = self.worth(items[2:])
            else:
                self.places[self.plain(items[1])] = self.worth(items[2:])

    def go(self, most):
        """Whether the run is done in at most so many steps."""
        try:
            for line in self.steps(self.tree):
                if len(self.trace) == most:
                    return False
                self.trace.append(line)
        except Stopped:
            pass
        return True

    def left(self, names):
        places = sorted((place, integer) for place, integer in self.places.items() if integer != 0)
        return (tuple(self.names.get(name, 0) for name in names), tuple(places))


def slow_played(lines, heard, most, own=()):
    """(outcome, said, steps) of a run."""
    run = SlowRun(lines, heard, own)
    is_done = run.go(most)
    return ("done" if is_done else "short", tuple(run.said), len(run.trace))
