"""What a plan makes of runs: the packs' sizes, what is loaded, and what it costs."""

from partpacks.programs import assignment_count
from partpacks.runs import run_through

PACKS = 4


def pack_sizes(program, plan):
    sizes = [0] * PACKS
    for part, pack in enumerate(plan):
        sizes[pack] += program.parts[part].size
    return sizes


# Each load as the part that is entered and the pack that is loaded.
def loads_of(entered, plan):
    there = [0]
    loads = []
    for part in entered:
        pack = plan[part]
        if pack not in there:
            there.append(pack)
            loads.append((part, pack))
    return loads


# more: what each load costs beside the pack's size.
def run_cost(sizes, loads, more):
    cost = sizes[0]
    for load in loads:
        cost += sizes[load[1]] + more
    return cost


# What each run costs: of the first entry with every assignment, then of the next one.
def all_costs(program, plan, more):
    sizes = pack_sizes(program, plan)
    costs = []
    for entry in range(len(program.entries)):
        for assignment in range(assignment_count(program)):
            run = run_through(program, entry, assignment)
            costs.append(run_cost(sizes, loads_of(run.entered, plan), more))
    return costs
