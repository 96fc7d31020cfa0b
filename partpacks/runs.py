"""How a run goes: which parts it enters, and how it ends."""

from partpacks.programs import Call, Make, When, assignment_count, made_name, words_chosen

WELL = 0
TOO_DEEP = 1
TOO_LONG = 2
MOST_DONE = 100
TOO_MANY_AROUND = 9


# entered: each part that is entered, once, in the order of the first times. What a run
# enters does not hang on the packs, so no plan is told here.
class Run:

    def __init__(self, program, assignment):
        self.program = program
        self.chosen = words_chosen(program, assignment)
        self.entered = []
        self.done = 0
        self.end = WELL

    # around: how many parts are being done around this one.
    def enter(self, part, around):
        if part not in self.entered:
            self.entered.append(part)
        if around == TOO_MANY_AROUND:
            return TOO_DEEP
        return self.do_all(self.program.parts[part].body, around)

    def do_all(self, body, around):
        for statement in body:
            if self.done == MOST_DONE:
                return TOO_LONG
            self.done += 1
            end = self.do_one(statement, around)
            if end != WELL:
                return end
        return WELL

    def do_one(self, statement, around):
        numbers = self.program.numbers
        if isinstance(statement, Call):
            return self.enter(numbers[statement.name], around + 1)
        if isinstance(statement, Make):
            name = made_name(statement.pieces, self.chosen)
            if name in numbers:
                return self.enter(numbers[name], around + 1)
        if isinstance(statement, When) and self.chosen[statement.setting] == statement.word:
            return self.do_all(statement.body, around)
        return WELL


def run_through(program, entry, assignment):
    run = Run(program, assignment)
    run.end = run.enter(program.entries[entry], 0)
    return run


# What each run enters: of the first entry with every assignment, then of the next one.
def all_entered(program):
    found = []
    for entry in range(len(program.entries)):
        for assignment in range(assignment_count(program)):
            found.append(run_through(program, entry, assignment).entered)
    return found


# The parts that some entry reaches exactly.
def reached_parts(all_runs):
    met = []
    for entered in all_runs:
        met.extend([part for part in entered if part not in met])
    return met


# What is entered ahead of the part, one list for each run that enters it.
def leads_to(all_runs, part):
    return [entered[:entered.index(part)] for entered in all_runs if part in entered]


def parts_in_each(leads):
    if len(leads) == 0:
        return []
    shared = leads[0]
    for lead in leads:
        shared = [part for part in shared if part in lead]
    return sorted(shared)
