"""What a plan makes of runs: the packs' sizes, what is loaded, and what it costs."""

PACKS = 4


def pack_sizes(program, plan):
    sizes = [0] * PACKS
    for part, pack in enumerate(plan):
        sizes[pack] += program.parts[part].size
    return sizes


# Each load as the part that is entered and the pack that is loaded.
def loads_of(entered, plan):
    there = [0]
    loads = []
    for part in entered:
        pack = plan[part]
        if pack not in there:
            there.append(pack)
            loads.append((part, pack))
    return loads


# more: what each load costs beside the pack's size.
def run_cost(sizes, loads, more):
    cost = sizes[0]
    for load in loads:
        cost += sizes[load[1]] + more
    return cost


# What each run costs, in the order of the runs; they are handed in as what they enter.
def all_costs(program, plan, all_runs, more):
    sizes = pack_sizes(program, plan)
    return [run_cost(sizes, loads_of(entered, plan), more) for entered in all_runs]
