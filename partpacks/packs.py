"""The calls on one object, one behind another, and their answers."""

from partpacks.faults import Fault
from partpacks.loads import PACKS, all_costs, loads_of, pack_sizes, run_cost
from partpacks.programs import assignment_count
from partpacks.reader import read_program
from partpacks.runs import run_through

LOAD = 0
PACKS_CALL = 1
COST = 2
RUN = 3
# By a call's number: how many whole numbers it has, and how many rows behind them.
NUMBERS_TOLD = (0, 0, 1, 2, 1, 2, 2, 3)
ROWS_TOLD = (1, 1, 0, 0, 0, 0, 0, 0)
NO_PROGRAM = -1
NO_ENTRY = -2
NO_ASSIGNMENT = -3
BAD_COST = -5
BAD_PACK = -6
GREATEST_COST = 1000


class Held:

    def __init__(self):
        self.program = None
        self.plan = []


def answers(calls):
    held = Held()
    told = []
    at = 0
    while at < len(calls):
        after = call_end(calls, at)
        answer = answer_of(held, calls[at:after])
        told.append(len(answer))
        told.extend(answer)
        at = after
    return told


def call_end(calls, at):
    after = at + 1 + NUMBERS_TOLD[calls[at]]
    for row in range(ROWS_TOLD[calls[at]]):
        after += 1 + calls[after]
    return after


def answer_of(held, call):
    number = call[0]
    if number == LOAD:
        return load_answer(held, call[2:])
    if held.program is None:
        return [NO_PROGRAM]
    if number == PACKS_CALL:
        return packs_answer(held, call[2:])
    if number == COST:
        return cost_answer(held, call[1])
    if number == RUN:
        return run_answer(held, call[1], call[2])
    raise NotImplementedError("this call is not built yet")


def load_answer(held, text):
    try:
        program = read_program(text)
    except Fault as e:
        return [0, e.code, e.place]
    held.program = program
    held.plan = [0] * len(program.parts)
    return [1, len(program.settings), len(program.parts), len(program.entries), assignment_count(program)]


def packs_answer(held, plan):
    if len(plan) != len(held.program.parts):
        return [BAD_PACK]
    for pack in plan:
        if pack < 0 or pack >= PACKS:
            return [BAD_PACK]
    held.plan = plan
    return [1] + pack_sizes(held.program, plan)


def cost_answer(held, more):
    if more < 0 or more > GREATEST_COST:
        return [BAD_COST]
    costs = all_costs(held.program, held.plan, more)
    # index finds the first of the dearest ones; the runs stand entry by entry.
    dearest = costs.index(max(costs))
    assignments = assignment_count(held.program)
    first_size = pack_sizes(held.program, held.plan)[0]
    return [sum(costs), len(costs), first_size, costs[dearest], dearest // assignments, dearest % assignments]


def run_answer(held, entry, assignment):
    if entry < 0 or entry >= len(held.program.entries):
        return [NO_ENTRY]
    if assignment < 0 or assignment >= assignment_count(held.program):
        return [NO_ASSIGNMENT]
    run = run_through(held.program, entry, assignment)
    loads = loads_of(run.entered, held.plan)
    answer = [run_cost(pack_sizes(held.program, held.plan), loads, 0), len(loads)]
    for load in loads:
        answer.extend(load)
    return answer
