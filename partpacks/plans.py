"""The plans that are looked at, and the best one of them."""

from partpacks.loads import all_costs, pack_sizes

# Where parts stand that no entry reaches exactly; those that one reaches stand in a pack below it.
UNREACHED_PACK = 3


# In the order in which alike plans are compared: part by part, by their packs.
def plans_for(reached, parts):
    plans = [[]]
    for part in range(parts):
        longer = []
        for plan in plans:
            if part in reached:
                longer.extend([plan + [pack] for pack in range(UNREACHED_PACK)])
            else:
                longer.append(plan + [UNREACHED_PACK])
        plans = longer
    return plans


# What all runs cost together with the best plan, and behind it the plan. There always is one: pack 0 may be empty.
def best_plan(program, all_runs, reached, more, first):
    plans = [plan for plan in plans_for(reached, len(program.parts)) if pack_sizes(program, plan)[0] <= first]
    costs = [sum(all_costs(program, plan, all_runs, more)) for plan in plans]
    least = min(costs)
    # index finds the first of the cheapest ones.
    return [least] + plans[costs.index(least)]
