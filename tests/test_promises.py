"""The promises 1, 2 and 5, and the calls beside a model, over many programs made up."""

import random
import unittest

from tests.helper import Made, ask, cost, load, packs, run

SEEDS = range(250)


class Story:
    """What a run answered, beside what the model says it enters."""

    def __init__(self, made, plan, entry, assignment, entered, answer):
        self.made = made
        self.plan = plan
        self.entry = entry
        self.assignment = assignment
        self.entered = entered
        self.cost = answer[0]
        self.count = answer[1]
        self.loads = [(answer[i], answer[i + 1]) for i in range(2, len(answer), 2)]

    def size_of(self, parts):
        return sum(self.made.sizes[part] for part in parts)

    def pack(self, number):
        return [part for part in range(len(self.plan)) if self.plan[part] == number]


def stories(plan_of):
    for seed in SEEDS:
        made = Made(seed)
        plan = plan_of(made)
        chosen = made.assignments()
        pairs = [(e, a) for e in range(len(made.entries)) for a in range(len(chosen))]
        dice = random.Random(seed)
        for entry, assignment in dice.sample(pairs, min(8, len(pairs))):
            entered = made.events(entry, chosen[assignment])
            answer = ask(load(made.text()), packs(*plan), run(entry, assignment))[2]
            yield Story(made, plan, entry, assignment, entered, answer)


def any_plan(made):
    return [made.dice.randint(0, 3) for name in made.names]


class Promises(unittest.TestCase):

    def test_1_a_pack_is_there_whenever_its_part_is_entered_and_loaded_once(self):
        for story in stories(any_plan):
            self.assertEqual(story.count, len(story.loads))
            loaded = [pack for part, pack in story.loads]
            self.assertEqual(len(loaded), len(set(loaded)))
            left = list(story.loads)
            there = {0}
            for part in story.entered:
                if left and left[0][0] == part and left[0][1] not in there:
                    there.add(left.pop(0)[1])
                self.assertIn(story.plan[part], there)
            self.assertEqual(left, [])

    def test_2_with_all_in_pack_0_nothing_is_loaded(self):
        for story in stories(lambda made: [0] * len(made.names)):
            self.assertEqual([story.count, story.cost], [0, sum(story.made.sizes)])

    def test_2_a_run_never_costs_less_than_what_it_enters(self):
        for story in stories(any_plan):
            self.assertGreaterEqual(story.cost, story.size_of(set(story.entered)))

    def test_5_what_a_run_costs_is_what_its_loads_tell(self):
        for story in stories(any_plan):
            told = story.size_of(story.pack(0)) + sum(story.size_of(story.pack(pack)) for part, pack in story.loads)
            self.assertEqual(story.cost, told)


class BesideAModel(unittest.TestCase):

    def runs(self, made, plan):
        """What each run of the model costs, and its loads, entry by entry."""
        found = []
        for entry in range(len(made.entries)):
            for chosen in made.assignments():
                loads = []
                for part in made.events(entry, chosen):
                    if plan[part] != 0 and plan[part] not in [pack for first, pack in loads]:
                        loads.append((part, plan[part]))
                there = [0] + [pack for part, pack in loads]
                found.append((sum(s for s, pack in zip(made.sizes, plan) if pack in there), loads))
        return found

    def test_each_call(self):
        for seed in SEEDS:
            made = Made(seed)
            plan = any_plan(made)
            more = made.dice.choice([0, 1, 7, 50, 1000])
            runs = self.runs(made, plan)
            per_entry = len(made.assignments())
            pick = made.dice.randrange(len(runs))
            found = ask(load(made.text()), packs(*plan), cost(more), run(pick // per_entry, pick % per_entry))
            self.assertEqual(found[0], [1, len(made.settings), len(made.names), len(made.entries), per_entry])
            sizes = [sum(s for s, p in zip(made.sizes, plan) if p == pack) for pack in range(4)]
            self.assertEqual(found[1], [1] + sizes)
            costs = [size + more * len(loads) for size, loads in runs]
            first = costs.index(max(costs))
            self.assertEqual(found[2], [
                sum(costs), len(costs), sizes[0], max(costs), first // per_entry, first % per_entry,
            ])
            size, loads = runs[pick]
            self.assertEqual(found[3], [size, len(loads)] + [number for one in loads for number in one])


if __name__ == "__main__":
    unittest.main()
