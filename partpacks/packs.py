"""The calls on one object, one behind another, and their answers."""

from partpacks.faults import Fault
from partpacks.loads import PACKS, all_costs, loads_of, pack_sizes, run_cost
from partpacks.plans import best_plan
from partpacks.programs import assignment_count
from partpacks.reader import read_program
from partpacks.runs import all_entered, leads_to, parts_in_each, reached_parts, run_through

LOAD = 0
PACKS_CALL = 1
COST = 2
RUN = 3
BEFORE = 4
BEST = 5
MOVE = 6
# By a call's number: how many whole numbers it has, and how many rows behind them.
NUMBERS_TOLD = (0, 0, 1, 2, 1, 2, 2, 3)
ROWS_TOLD = (1, 1, 0, 0, 0, 0, 0, 0)
NO_PROGRAM = -1
NO_ENTRY = -2
NO_ASSIGNMENT = -3
NO_PART = -4
BAD_COST = -5
BAD_PACK = -6
TOO_MUCH = -7
GREATEST_COST = 1000
MOST_RUNS = 32
MOST_REACHED = 6
# What there tells of a pack that came with no load.
NO_LOAD = -1


class Held:

    def __init__(self):
        self.program = None
        self.plan = []


def answers(calls):
    held = Held()
    told = []
    at = 0
    while at < len(calls):
        after = call_end(calls, at)
        answer = answer_of(held, calls[at:after])
        told.append(len(answer))
        told.extend(answer)
        at = after
    return told


def call_end(calls, at):
    after = at + 1 + NUMBERS_TOLD[calls[at]]
    for row in range(ROWS_TOLD[calls[at]]):
        after += 1 + calls[after]
    return after


def answer_of(held, call):
    number = call[0]
    if number == LOAD:
        return load_answer(held, call[2:])
    if held.program is None:
        return [NO_PROGRAM]
    if number == PACKS_CALL:
        return packs_answer(held, call[2:])
    if number == COST:
        return cost_answer(held, call[1])
    if number == RUN:
        return run_answer(held, call[1], call[2])
    if number == BEFORE:
        return before_answer(held, call[1])
    if number == BEST:
        return best_answer(held, call[1], call[2])
    if number == MOVE:
        return move_answer(held, call[1], call[2])
    return there_answer(held, call[1], call[2], call[3])


# Entries, assignments, parts and packs are all numbered from 0.
def is_one_of(number, count):
    return 0 <= number < count


def is_cost(number):
    return 0 <= number <= GREATEST_COST


def load_answer(held, text):
    try:
        program = read_program(text)
    except Fault as e:
        return [0, e.code, e.place]
    held.program = program
    held.plan = [0] * len(program.parts)
    return [1, len(program.settings), len(program.parts), len(program.entries), assignment_count(program)]


def packs_answer(held, plan):
    if len(plan) != len(held.program.parts):
        return [BAD_PACK]
    for pack in plan:
        if not is_one_of(pack, PACKS):
            return [BAD_PACK]
    # A copy, since a part may be moved in it later.
    held.plan = list(plan)
    return [1] + pack_sizes(held.program, held.plan)


def cost_answer(held, more):
    if not is_cost(more):
        return [BAD_COST]
    costs = all_costs(held.program, held.plan, all_entered(held.program), more)
    # index finds the first of the dearest ones; the runs stand entry by entry.
    dearest = costs.index(max(costs))
    assignments = assignment_count(held.program)
    first_size = pack_sizes(held.program, held.plan)[0]
    return [sum(costs), len(costs), first_size, costs[dearest], dearest // assignments, dearest % assignments]


# What both run and there refuse; empty if there is such a run.
def run_refusal(program, entry, assignment):
    if not is_one_of(entry, len(program.entries)):
        return [NO_ENTRY]
    if not is_one_of(assignment, assignment_count(program)):
        return [NO_ASSIGNMENT]
    return []


def run_answer(held, entry, assignment):
    refusal = run_refusal(held.program, entry, assignment)
    if len(refusal) > 0:
        return refusal
    run = run_through(held.program, entry, assignment)
    loads = loads_of(run.entered, held.plan)
    answer = [run_cost(pack_sizes(held.program, held.plan), loads, 0), len(loads)]
    for load in loads:
        answer.extend(load)
    return answer


def before_answer(held, part):
    if not is_one_of(part, len(held.program.parts)):
        return [NO_PART]
    leads = leads_to(all_entered(held.program), part)
    sure = parts_in_each(leads)
    return [len(leads), len(sure)] + sure


def best_answer(held, more, first):
    if not is_cost(more) or not is_cost(first):
        return [BAD_COST]
    program = held.program
    if len(program.entries) * assignment_count(program) > MOST_RUNS:
        return [TOO_MUCH]
    all_runs = all_entered(program)
    reached = reached_parts(all_runs)
    if len(reached) > MOST_REACHED:
        return [TOO_MUCH]
    return best_plan(program, all_runs, reached, more, first)


def move_answer(held, part, pack):
    if not is_one_of(part, len(held.program.parts)):
        return [NO_PART]
    if not is_one_of(pack, PACKS):
        return [BAD_PACK]
    held.plan[part] = pack
    return [1] + pack_sizes(held.program, held.plan)


def there_answer(held, entry, assignment, part):
    refusal = run_refusal(held.program, entry, assignment)
    if len(refusal) > 0:
        return refusal
    if not is_one_of(part, len(held.program.parts)):
        return [NO_PART]
    pack = held.plan[part]
    run = run_through(held.program, entry, assignment)
    loaded = [load[1] for load in loads_of(run.entered, held.plan)]
    if pack in loaded:
        return [1, loaded.index(pack)]
    return [1 if pack == 0 else 0, NO_LOAD]
