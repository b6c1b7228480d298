"""A second account of what the document says, written apart from the package, for tests to compare."""

STAGES = ("asleep", "says", "up", "down", "done", "over")


def small(n):
    """The small number that an integer is brought to, by its bits."""
    return ((n & 0xFFFFFFFF) ^ 0x80000000) - 0x80000000


def worth(expression, seen):
    """What an expression comes to, all that stands in it being worked out first."""
    word, *rest = expression
    if word == "number":
        return rest[0]
    if word == "cell":
        return seen["cells"][rest[0]]
    if word in ("sum", "least", "most", "heard"):
        numbers = seen["numbers"]
        return {"heard": len(numbers), "sum": small(sum(numbers)),
                "least": sorted(numbers)[0] if numbers else 0,
                "most": sorted(numbers)[-1] if numbers else 0}[word]
    if word in ("me", "many", "ties", "round", "other"):
        return seen[word]
    a, b, *more = [worth(inner, seen) for inner in rest]
    if word == "if":
        return more[0] if a == 0 else b
    return small(int({
        "add": a + b, "sub": a - b, "mul": a * b, "min": sorted([a, b])[0], "max": sorted([a, b])[1],
        "less": a < b, "same": a == b, "and": bool(a and b), "or": bool(a or b),
        "rest": a - a // b * b if b > 0 else 0}[word]))


def beside(web, house):
    return sorted({a + b - house for a, b in web.ties if house in (a, b)})


def starts(web, program, house):
    seen = {"me": house, "many": web.many, "ties": len(beside(web, house))}
    return tuple(worth(expression, seen) for expression in program.starts)


def says(web, program, house, at, cells):
    """What a house says in a round: numbers by neighbours."""
    said = {}
    for other in beside(web, house):
        seen = {"me": house, "many": web.many, "ties": len(beside(web, house)), "round": at,
                "other": other, "cells": cells}
        if worth(program.to, seen):
            said[other] = worth(program.say, seen)
    return said


def nexts(web, program, house, at, cells, numbers):
    seen = {"me": house, "many": web.many, "ties": len(beside(web, house)), "round": at,
            "cells": cells, "numbers": numbers}
    return tuple(worth(expression, seen) for expression in program.nexts)


def rounds(web, program, many):
    """Round by round what all know, and, in the rounds below, what all say."""
    rows, told = [[starts(web, program, house) for house in range(web.many)]], []
    for at in range(many):
        said = [says(web, program, house, at, rows[-1][house]) for house in range(web.many)]
        rows.append([nexts(web, program, house, at, rows[-1][house],
                           [pairs[house] for pairs in said if house in pairs])
                     for house in range(web.many)])
        told.append(said)
    return rows, told


def said_in(web, program, many):
    """How many numbers are said in the rounds below this one."""
    return sum(len(pairs) for said in rounds(web, program, many)[1] for pairs in said)


def leader(keeper, house):
    return house if keeper.parents[house] is None else leader(keeper, keeper.parents[house])


def steps_up(keeper, house):
    return 0 if keeper.parents[house] is None else 1 + steps_up(keeper, keeper.parents[house])


class House:
    """A house of a course, by sets and lists that are changed in place."""

    def __init__(self, course, me, state):
        self.course, self.me, self.out = course, me, []
        self.web, self.keeper = course.keeper.web, course.keeper
        self.stage, self.round, self.cells, self.owed, saids, ups, nexts_kept, dones = state
        self.saids, self.ups = list(saids), set(ups)
        self.nexts, self.dones = set(nexts_kept), set(dones)
        self.parent = self.keeper.parents[me]
        self.children = [k for k in range(self.web.many) if self.keeper.parents[k] == me]
        self.across = sorted({a + b - me for a, b in self.keeper.chosen if me in (a, b)})

    def state(self):
        return (self.stage, self.round, self.cells, self.owed, tuple(sorted(self.saids)),
                tuple(sorted(self.ups)), tuple(sorted(self.nexts)), tuple(sorted(self.dones)))

    def enter(self, at):
        self.round, self.owed, self.stage = at, 0, "over"
        if at != self.course.goal:
            self.stage = "says"
            said = says(self.web, self.course.program, self.me, at, self.cells)
            self.out += [(other, ("said", at, said[other])) for other in sorted(said)]
            self.owed = len(said)

    def pass_round(self):
        self.out += [(child, ("go", self.round)) for child in self.children]
        numbers = [number for at, _, number in self.saids if at == self.round]
        self.cells = nexts(self.web, self.course.program, self.me, self.round, self.cells, numbers)
        self.saids = [said for said in self.saids if said[0] != self.round]
        self.nexts = {pair for pair in self.nexts if pair[0] != self.round}
        self.ups, self.dones = set(), set()
        self.enter(self.round + 1)

    def spread(self):
        self.stage = "down"
        self.out += [(child, ("down", self.round)) for child in self.children]
        self.out += [(other, ("next", self.round)) for other in self.across]

    def go_on(self):
        if self.stage == "says" and not self.owed and self.ups == set(self.children):
            if self.parent is not None:
                self.out.append((self.parent, ("up", self.round)))
                self.stage = "up"
            elif self.keeper.chosen == ():
                self.pass_round()
            else:
                self.spread()
            self.go_on()
        elif (self.stage == "down" and self.dones == set(self.children)
              and {(self.round, other) for other in self.across} <= self.nexts):
            if self.parent is not None:
                self.out.append((self.parent, ("done", self.round)))
                self.stage = "done"
            else:
                self.pass_round()
            self.go_on()

    def can_hear(self, sender, word):
        """Whether a word of the right form can be heard, clause by clause."""
        name, at = word[:2]
        if self.stage == "over" or sender not in beside(self.web, self.me):
            return False
        early = at not in ((0,) if self.stage == "asleep" else (self.round, self.round + 1))
        if name == "said":
            return not (early or at >= self.course.goal
                        or [1 for kept in self.saids if kept[:2] == (at, sender)])
        if name == "next":
            return not (early or at >= self.course.goal or sender not in self.across
                        or (at, sender) in self.nexts)
        if at != self.round:
            return False
        if name == "got":
            return self.owed != 0
        if name == "up":
            return (sender in self.children and sender not in self.ups
                    and self.stage in ("asleep", "says"))
        if name == "down":
            return sender == self.parent and self.stage == "up" and self.keeper.chosen != ()
        if name == "done":
            return (sender in self.children and sender not in self.dones and self.stage == "down")
        assert name == "go"
        return sender == self.parent and self.stage == ("up" if self.keeper.chosen == () else "done")

    def hear(self, sender, word):
        name, at = word[:2]
        if name == "said":
            self.saids.append((at, sender, word[2]))
            self.out.append((sender, ("got", at)))
        elif name == "got":
            self.owed -= 1
        elif name in ("up", "next", "done"):
            {"up": self.ups, "done": self.dones, "next": self.nexts}[name].add(
                (at, sender) if name == "next" else sender)
        elif name == "down":
            self.spread()
        else:
            self.pass_round()
        if self.stage != "asleep":
            self.go_on()


def start(course, house, state):
    """What a start leads to: the state, and what is sent."""
    model = House(course, house, state)
    model.enter(0)
    model.go_on()
    return model.state(), tuple(model.out)


def hear(course, house, state, sender, word):
    """What a word leads to: the state, and what is sent; None if it can't be heard."""
    model = House(course, house, state)
    if not model.can_hear(sender, word):
        return None
    model.hear(sender, word)
    return model.state(), tuple(model.out)


def first_glass(course):
    web = course.keeper.web
    return (tuple(("asleep", 0, starts(web, course.program, house), 0, (), (), (), ())
                  for house in range(web.many)), ())


def moves(glass):
    """What can be next, as the document lists it."""
    asleep = [("start", house) for house, state in enumerate(glass[0]) if state[0] == "asleep"]
    return sorted(asleep) + sorted([("take", way[0], way[1]) for way in glass[1]])


def moved(course, glass, move):
    """The glass behind a move, None if its word can't be heard then."""
    states, ways = list(glass[0]), {way[:2]: list(way[2]) for way in glass[1]}
    if move[0] == "start":
        house = move[1]
        told = start(course, house, states[house])
    else:
        house = move[2]
        told = hear(course, house, states[house], move[1], ways[move[1:]].pop(0))
    if told is None:
        return None
    states[house] = told[0]
    for other, word in told[1]:
        ways[house, other] = ways.get((house, other), []) + [word]
    return (tuple(states), tuple((*way, tuple(ways[way])) for way in sorted(ways) if ways[way]))


def broken(course, glass):
    """The words of the sums that do not hold."""
    states, ways = glass
    web = course.keeper.web
    rows, _ = rounds(web, course.program, course.goal)
    way_words = [(way[0], way[1], word) for way in ways for word in way[2]]
    words = []
    if [1 for a in range(web.many) for b in beside(web, a) if states[a][1] > states[b][1] + 1]:
        words.append("rounds")
    for house in range(web.many):
        said = [1 for sender, _, word in way_words if sender == house and word[0] == "said"]
        gots = [1 for _, to, word in way_words if to == house and word[0] == "got"]
        if len(said) + len(gots) != states[house][3] and "gots" not in words:
            words.append("gots")
    if [1 for _, to, word in way_words if word[0] == "said" and states[to][1] > word[1]]:
        words.append("early")
    if [1 for house, state in enumerate(states) if state[2] != rows[state[1]][house]]:
        words.append("cells")
    return tuple(words)


def run(course, choices):
    """The list of the moves of a run, and that of the glasses ahead of each, and behind the last."""
    glasses, done = [first_glass(course)], []
    while moves(glasses[-1]):
        can_be = moves(glasses[-1])
        choice = choices[len(done)] if len(done) < len(choices) else 0
        done.append(can_be[choice % len(can_be)])
        glasses.append(moved(course, glasses[-1], done[-1]))
    return done, glasses


def beats(course):
    """How many beats it takes, by lists of all words on their way that are emptied beat by beat."""
    glass, many = first_glass(course), 0
    for house in range(course.keeper.web.many):
        glass = moved(course, glass, ("start", house))
    while {state[0] for state in glass[0]} != {"over"}:
        for sender, house, words in glass[1]:
            for _ in words:
                glass = moved(course, glass, ("take", sender, house))
        many += 1
    return many


class Tale:
    """A record, told by lists of all that was ever said and heard."""

    def __init__(self, record):
        self.record, self.web = record, record.web
        self.rows, self.told = rounds(record.web, record.program, record.goal)
        self.said, self.heard, self.done = [], [], []
        self.causes, self.before = [], []

    def entered(self, house):
        return self.done.count(("enter", house))

    def on_way(self, sender, house):
        """What is on its way: all that was said but what was heard already."""
        said = [item for item in self.said if item[:2] == (sender, house)]
        return said[len([item for item in self.heard if item[:2] == (sender, house)]):]

    def wrong(self, event):
        house = event[1]
        if event[0] == "hear":
            return None if self.on_way(event[2], house) else "empty"
        count = self.entered(house)
        if count == self.record.goal + 1:
            return "over"
        if count:
            due = {n for n in beside(self.web, house) if house in self.told[count - 1][n]}
            if due - {sender for sender, to, at, _, _ in self.heard if to == house and at == count - 1}:
                return "early"
        counts = [self.entered(k) + (k == house) for k in range(self.web.many)]
        if [1 for a, b in self.web.ties if not -2 < counts[a] - counts[b] < 2]:
            return "apart"
        return None

    def do(self, event):
        house, index = event[1], len(self.done)
        direct = {max([k for k, other in enumerate(self.done) if other[1] == house], default=index)} - {index}
        if event[0] == "hear":
            item = self.on_way(event[2], house)[0]
            self.heard.append(item)
            direct.add(item[4])
        else:
            at = self.entered(house)
            if at < self.record.goal:
                for other, number in sorted(self.told[at][house].items()):
                    self.said.append((house, other, at, number, index))
        self.done.append(event)
        self.causes.append(tuple(sorted(direct)))
        self.before.append({index}.union(*[self.before[k] for k in direct]))

    def vector(self, index):
        return tuple(len([k for k in self.before[index] if self.done[k][1] == house])
                     for house in range(self.web.many))
