"""What the tests share: calls written short, answers taken apart, and programs made up with a model."""

import itertools
import random

from partpacks.packs import answers

WORKED = (
    "set os : lin, win ; part main size 2 { call io ; make draw + os ; when os is win { call fix ; } say 1 ; } "
    "part io size 5 { say 2 ; } part drawlin size 7 { call io ; } part drawwin size 8 { say 3 ; } "
    "part fix size 4 { } part old size 9 { call fix ; } start main ;"
)
HUGE = 10 ** 18


def load(text):
    data = list(text.encode("latin-1"))
    return [0, len(data)] + data


def packs(*plan):
    return [1, len(plan), *plan]


def cost(more):
    return [2, more]


def run(entry, assignment):
    return [3, entry, assignment]


def before(part):
    return [4, part]


def best(more, first):
    return [5, more, first]


def move(part, pack):
    return [6, part, pack]


def there(entry, assignment, part):
    return [7, entry, assignment, part]


def flat(calls):
    return [number for call in calls for number in call]


def apart(told):
    """The answers, one list for each call."""
    parts = []
    at = 0
    while at < len(told):
        after = at + 1 + told[at]
        assert after <= len(told), "an answer ends too early"
        parts.append(told[at + 1:after])
        at = after
    return parts


def ask(*calls):
    assert len(calls) <= 20 and len(flat(calls)) <= 17000, "more than is handed in"
    found = apart(answers(flat(calls)))
    assert len(found) == len(calls), "not one answer for each call"
    return found


def fault(marked):
    """The answer to a text, and the place of the ^ that marks where it is wrong (the ^ is taken out)."""
    place = marked.index("^")
    return ask(load(marked.replace("^", "")))[0], place


class Ended(Exception):
    pass


class Made:
    """A right program made up from a seed, written out as a text and run by a model of its own."""

    def __init__(self, seed):
        self.dice = random.Random(seed)
        words = ["a", "b", "c1", "dd"]
        self.settings = [
            ("s" + str(i), self.dice.sample(words, self.dice.randint(1, 4))) for i in range(self.dice.randint(0, 3))
        ]
        count = self.dice.randint(1, 10)
        names = ["p", "pa", "pb", "pc1", "pdd", "a", "b", "paa", "pab", "q"]
        self.dice.shuffle(names)
        self.names = names[:count]
        self.sizes = [self.dice.randint(1, 99) for name in self.names]
        self.bodies = [self.body(0) for name in self.names]
        self.entries = self.dice.sample(range(count), self.dice.randint(1, min(4, count)))

    def body(self, around):
        return [self.statement(around) for i in range(self.dice.choice([0, 1, 1, 2, 2, 3, 5]))]

    def statement(self, around):
        pick = self.dice.random()
        if pick < 0.2:
            return ("say", self.dice.randint(1, 99))
        if pick < 0.4:
            return ("call", self.dice.choice(self.names))
        if pick < 0.7 or not self.settings or around == 3:
            pieces = ["p", "a", "b", "zz"] + [name for name, words in self.settings] * 2
            return ("make", [self.dice.choice(pieces) for i in range(self.dice.randint(1, 3))])
        name, words = self.dice.choice(self.settings)
        return ("when", name, self.dice.choice(words), self.body(around + 1))

    def text(self):
        tokens = []
        for name, words in self.settings:
            tokens += ["set", name, ":"] + self.row(words, ",") + [";"]
        for name, size, body in zip(self.names, self.sizes, self.bodies):
            tokens += ["part", name, "size", str(size)] + self.block(body)
        tokens += ["start"] + self.row([self.names[part] for part in self.entries], ",") + [";"]
        blanks = [" ", "\n", "\t", "  ", " #{ when\n"]
        return "".join(token + self.dice.choice(blanks) for token in tokens)

    def row(self, names, sign):
        return [token for name in names for token in (name, sign)][:-1]

    def block(self, body):
        tokens = ["{"]
        for statement in body:
            if statement[0] == "make":
                tokens += ["make"] + self.row(statement[1], "+") + [";"]
            elif statement[0] == "when":
                tokens += ["when", statement[1], "is", statement[2]] + self.block(statement[3])
            else:
                tokens += [statement[0], str(statement[1]), ";"]
        return tokens + ["}"]

    def assignments(self):
        """Each setting's word by its name, in the order of the numbers: the first setting changes quickest."""
        found = [{}]
        for name, words in self.settings:
            found = [dict(old, **{name: word}) for word in words for old in found]
        return found

    def events(self, entry, chosen):
        """The part of each entering of a run, in order, doubles too."""
        entered = []
        left = [100]

        def enter(name, depth):
            entered.append(self.names.index(name))
            if depth == 10:
                raise Ended
            for statement in self.bodies[self.names.index(name)]:
                do(statement, depth)

        def do(statement, depth):
            if left[0] == 0:
                raise Ended
            left[0] -= 1
            if statement[0] == "call":
                enter(statement[1], depth + 1)
            elif statement[0] == "make":
                name = "".join(chosen.get(piece, piece) for piece in statement[1])
                if name in self.names:
                    enter(name, depth + 1)
            elif statement[0] == "when" and chosen[statement[1]] == statement[2]:
                for inner in statement[3]:
                    do(inner, depth)

        try:
            enter(self.names[self.entries[entry]], 1)
        except Ended:
            pass
        return entered

    def runs(self):
        """The events of each run, entry by entry."""
        return [self.events(entry, chosen) for entry in range(len(self.entries)) for chosen in self.assignments()]

    def reached(self):
        return sorted({part for events in self.runs() for part in events})


class Model:
    """The object with a program made up, as the document tells it: each call as it is handed in, without load."""

    def __init__(self, made):
        self.made = made
        self.plan = [0] * len(made.names)
        self.runs = made.runs()
        self.assignments = len(made.assignments())

    def loaded(self):
        return [
            1, len(self.made.settings), len(self.plan), len(self.made.entries), self.assignments,
        ]

    def answer(self, call):
        names = [None, "packs", "cost", "run", "before", "best", "move", "there"]
        told = [call[2:]] if call[0] == 1 else call[1:]
        return getattr(self, names[call[0]])(*told)

    def packs(self, plan):
        if len(plan) != len(self.plan) or not set(plan) <= {0, 1, 2, 3}:
            return [-6]
        self.plan = list(plan)
        return [1] + self.sizes(self.plan)

    def cost(self, more):
        if more not in range(1001):
            return [-5]
        costs = [self.price(self.plan, events, more) for events in self.runs]
        dearest = min(range(len(costs)), key=lambda at: (-costs[at], at))
        return [sum(costs), len(costs), self.sizes(self.plan)[0], costs[dearest], *divmod(dearest, self.assignments)]

    def run(self, entry, assignment):
        if entry not in range(len(self.made.entries)):
            return [-2]
        if assignment not in range(self.assignments):
            return [-3]
        events = self.runs[entry * self.assignments + assignment]
        loads = self.loads(self.plan, events)
        return [self.price(self.plan, events, 0), len(loads)] + [number for load in loads for number in load]

    def before(self, part):
        if part not in range(len(self.plan)):
            return [-4]
        leads = [set(events[:events.index(part)]) for events in self.runs if part in events]
        sure = sorted(set.intersection(*leads)) if leads else []
        return [len(leads), len(sure)] + sure

    def best(self, more, first):
        if more not in range(1001) or first not in range(1001):
            return [-5]
        reached = self.made.reached()
        if len(self.runs) > 32 or len(reached) > 6:
            return [-7]
        found = []
        for picked in itertools.product(range(3), repeat=len(reached)):
            plan = [3] * len(self.plan)
            for part, pack in zip(reached, picked):
                plan[part] = pack
            if self.sizes(plan)[0] <= first:
                found.append([self.together(plan, more)] + plan)
        return min(found)

    def move(self, part, pack):
        if part not in range(len(self.plan)):
            return [-4]
        return self.packs(self.plan[:part] + [pack] + self.plan[part + 1:])

    def there(self, entry, assignment, part):
        if len(self.run(entry, assignment)) == 1:
            return self.run(entry, assignment)
        if part not in range(len(self.plan)):
            return [-4]
        packs = [pack for first, pack in self.loads(self.plan, self.runs[entry * self.assignments + assignment])]
        pack = self.plan[part]
        return [1, packs.index(pack)] if pack in packs else [int(pack == 0), -1]

    def sizes(self, plan):
        return [sum(size for size, pack in zip(self.made.sizes, plan) if pack == told) for told in range(4)]

    def loads(self, plan, events):
        firsts = {}
        for part in events:
            firsts.setdefault(plan[part], part)
        return [(part, pack) for pack, part in firsts.items() if pack != 0]

    def price(self, plan, events, more):
        used = {plan[part] for part in events} | {0}
        return sum(size for size, pack in zip(self.made.sizes, plan) if pack in used) + more * (len(used) - 1)

    def together(self, plan, more):
        return sum(self.price(plan, events, more) for events in self.runs)
