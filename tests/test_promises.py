"""The promises 1 to 5, and lists of calls beside a model, over many programs made up."""

import random
import unittest

from tests.helper import HUGE, Made, Model, ask, before, best, cost, load, move, packs, run, there

SEEDS = range(250)


class Story:
    """What a run answered, beside what the model says it enters."""

    def __init__(self, made, plan, entry, assignment, entered, answer):
        self.made = made
        self.plan = plan
        self.entry = entry
        self.assignment = assignment
        self.entered = entered
        self.cost = answer[0]
        self.count = answer[1]
        self.loads = [(answer[i], answer[i + 1]) for i in range(2, len(answer), 2)]

    def size_of(self, parts):
        return sum(self.made.sizes[part] for part in parts)

    def pack(self, number):
        return [part for part in range(len(self.plan)) if self.plan[part] == number]


def stories(plan_of):
    for seed in SEEDS:
        made = Made(seed)
        plan = plan_of(made)
        chosen = made.assignments()
        pairs = [(e, a) for e in range(len(made.entries)) for a in range(len(chosen))]
        dice = random.Random(seed)
        for entry, assignment in dice.sample(pairs, min(8, len(pairs))):
            entered = made.events(entry, chosen[assignment])
            answer = ask(load(made.text()), packs(*plan), run(entry, assignment))[2]
            yield Story(made, plan, entry, assignment, entered, answer)


def any_plan(made):
    return [made.dice.randint(0, 3) for name in made.names]


def answered_by_best():
    """Programs with few enough runs and parts, and the parts that are reached exactly."""
    for seed in SEEDS:
        made = Made(seed)
        reached = made.reached()
        if len(made.runs()) <= 32 and len(reached) <= 6:
            yield made, reached


def others(made, reached, first, count):
    """Some of the plans among which the best one is."""
    for i in range(count):
        plan = [made.dice.randint(0, 2) if part in reached else 3 for part in range(len(made.names))]
        if sum(size for size, pack in zip(made.sizes, plan) if pack == 0) <= first:
            yield plan


class Promises(unittest.TestCase):

    def test_1_a_pack_is_there_whenever_its_part_is_entered_and_loaded_once(self):
        for story in stories(any_plan):
            self.assertEqual(story.count, len(story.loads))
            loaded = [pack for part, pack in story.loads]
            self.assertEqual(len(loaded), len(set(loaded)))
            left = list(story.loads)
            there = {0}
            for part in story.entered:
                if left and left[0][0] == part and left[0][1] not in there:
                    there.add(left.pop(0)[1])
                self.assertIn(story.plan[part], there)
            self.assertEqual(left, [])

    def test_1_there_tells_so_of_each_part(self):
        for story in stories(any_plan):
            plan = story.plan
            parts = range(len(plan))
            asked = [there(story.entry, story.assignment, part) for part in parts]
            loaded = [pack for part, pack in story.loads]
            for part, told in zip(parts, ask(load(story.made.text()), packs(*plan), *asked)[2:]):
                if part in story.entered:
                    self.assertEqual(told[0], 1)
                self.assertEqual(told[0], int(plan[part] == 0 or plan[part] in loaded))
                self.assertEqual(told[1], -1 if plan[part] == 0 or not told[0] else loaded.index(plan[part]))

    def test_2_with_all_in_pack_0_nothing_is_loaded(self):
        for story in stories(lambda made: [0] * len(made.names)):
            self.assertEqual([story.count, story.cost], [0, sum(story.made.sizes)])

    def test_2_a_run_never_costs_less_than_what_it_enters(self):
        for story in stories(any_plan):
            self.assertGreaterEqual(story.cost, story.size_of(set(story.entered)))

    def test_2_all_runs_never_cost_less_than_what_they_enter(self):
        for seed in SEEDS:
            made = Made(seed)
            least = sum(sum(made.sizes[part] for part in set(events)) for events in made.runs())
            for plan in (any_plan(made), any_plan(made)):
                told = ask(load(made.text()), packs(*plan), cost(0))[2]
                self.assertGreaterEqual(told[0], least)

    def test_3_no_plan_costs_less_than_the_best_one_and_it_costs_what_is_told(self):
        seen = 0
        for made, reached in answered_by_best():
            more = made.dice.choice([0, 1, 5, 30, 200, 1000])
            first = made.dice.choice([0, 20, 60, 100, 200, 1000])
            told = ask(load(made.text()), best(more, first))[1]
            self.assertEqual(len(told), 1 + len(made.names))
            plan = told[1:]
            found = ask(load(made.text()), packs(*plan), cost(more))
            self.assertLessEqual(found[1][1], first)
            self.assertEqual(found[2][0], told[0])
            for part, pack in enumerate(plan):
                self.assertEqual(pack == 3, part not in reached)
            for other in others(made, reached, first, 9):
                price = ask(load(made.text()), packs(*other), cost(more))[2][0]
                self.assertLessEqual([told[0], plan], [price, other])
                seen += 1
        self.assertGreater(seen, 1000)

    def test_3_with_a_larger_first_pack_it_costs_no_more(self):
        for made, reached in answered_by_best():
            more = made.dice.choice([0, 1, 5, 30, 200, 1000])
            sizes = [0, 1] + [made.dice.randint(2, 200) for i in range(6)] + [999, 1000]
            told = ask(load(made.text()), *[best(more, first) for first in sorted(sizes)])[1:]
            costs = [answer[0] for answer in told]
            self.assertEqual(costs, sorted(costs, reverse=True))

    def test_4_what_is_told_before_a_part_is_so_in_each_run_that_enters_it(self):
        for seed in SEEDS:
            made = Made(seed)
            parts = range(len(made.names))
            runs = made.runs()
            told = ask(load(made.text()), *[before(part) for part in parts])[1:]
            for part, answer in zip(parts, told):
                entering = [events for events in runs if part in events]
                self.assertEqual(answer[:2], [len(entering), len(answer) - 2])
                self.assertEqual(answer[2:], sorted(set(answer[2:]) - {part}))
                for events in entering:
                    self.assertLessEqual(set(answer[2:]), set(events[:events.index(part)]))
                # And nothing that is so in each of them is left untold.
                for other in set(parts) - set(answer[2:]) - {part}:
                    self.assertFalse(entering and all(other in events[:events.index(part)] for events in entering))

    def test_5_what_a_run_costs_is_what_its_loads_tell(self):
        for story in stories(any_plan):
            told = story.size_of(story.pack(0)) + sum(story.size_of(story.pack(pack)) for part, pack in story.loads)
            self.assertEqual(story.cost, told)

    def test_5_whatever_packs_are_not_loaded(self):
        for story in stories(any_plan):
            shut = set(range(1, 4)) - {pack for part, pack in story.loads}
            plan = [story.made.dice.choice(sorted(shut)) if pack in shut else pack for pack in story.plan]
            calls = [run(story.entry, story.assignment)]
            # Moved one by one, or handed in at once.
            moves = [move(part, pack) for part, pack in enumerate(plan)]
            found = ask(load(story.made.text()), packs(*story.plan), *calls, *moves, *calls, packs(*plan), *calls)
            self.assertEqual(found[2], found[-3])
            self.assertEqual(found[2], found[-1])

    def test_5_all_runs_cost_what_they_cost_one_by_one(self):
        for seed in SEEDS:
            made = Made(seed)
            plan = any_plan(made)
            pairs = [(e, a) for e in range(len(made.entries)) for a in range(len(made.assignments()))]
            if len(pairs) <= 16:
                found = ask(load(made.text()), packs(*plan), cost(7), *[run(e, a) for e, a in pairs])
                costs = [answer[0] + 7 * answer[1] for answer in found[3:]]
                self.assertEqual([sum(costs), len(costs), max(costs)], [found[2][0], found[2][1], found[2][3]])


# Texts that are no programs, and what load answers to them.
FAULTY = (
    ("", [0, 3, 0]), ("part m size 01 { }", [0, 2, 12]), (" " * 4097, [0, 1, 4096]), ("part m size 0 {", [0, 7, 12]),
    ("part m size 1 { call n ; } start m ;", [0, 9, 21]), ("part m size 1 { } start m, m ;", [0, 6, 27]),
)


class BesideAModel(unittest.TestCase):

    def any_number(self, dice, count):
        """One below the count, or one at or beyond the edges."""
        if dice.random() < 0.85:
            return dice.randrange(count)
        return dice.choice([-1, count, count + 1, HUGE, -HUGE])

    def any_cost(self, dice):
        return dice.choice([0, 1, 3, 20, 50, 100, 300, 999, 1000] * 3 + [-1, 1001, HUGE, -HUGE])

    def any_call(self, dice, made):
        """A call other than load."""
        parts, entries, runs = len(made.names), len(made.entries), len(made.assignments())
        number = dice.randint(1, 7)
        if number == 1:
            count = parts if dice.random() < 0.9 else dice.randint(0, 12)
            most = 4 if dice.random() < 0.9 else 5
            return packs(*[dice.randrange(most) for i in range(count)])
        if number == 2:
            return cost(self.any_cost(dice))
        if number == 3:
            return run(self.any_number(dice, entries), self.any_number(dice, runs))
        if number == 4:
            return before(self.any_number(dice, parts))
        if number == 5:
            return best(self.any_cost(dice), self.any_cost(dice))
        if number == 6:
            return move(self.any_number(dice, parts), self.any_number(dice, 4))
        return there(self.any_number(dice, entries), self.any_number(dice, runs), self.any_number(dice, parts))

    def story(self, seed):
        """Up to 20 calls in any order, and what the model answers to them."""
        dice = random.Random(seed)
        made = Made(seed)
        model = None
        calls = []
        told = []
        for i in range(dice.randint(1, 20)):
            pick = dice.random()
            if pick < 0.05:
                text, answer = dice.choice(FAULTY)
                calls.append(load(text))
            elif pick < 0.15 or (model is None and pick < 0.5):
                made = Made(dice.randrange(10 ** 6))
                model = Model(made)
                answer = model.loaded()
                calls.append(load(made.text()))
            else:
                calls.append(self.any_call(dice, made))
                answer = [-1] if model is None else model.answer(calls[-1])
            told.append(answer)
        return calls, told

    def test_lists_of_calls_in_any_order(self):
        for seed in range(600):
            calls, told = self.story(seed)
            # A list has at most 17000 numbers.
            while sum(len(call) for call in calls) > 17000:
                calls.pop()
                told.pop()
            self.assertEqual(ask(*calls), told, seed)

    def test_each_call(self):
        for seed in SEEDS:
            made = Made(seed)
            model = Model(made)
            calls = [packs(*any_plan(made)), cost(made.dice.choice([0, 1, 7, 50, 1000]))]
            calls += [before(part) for part in range(len(made.names))]
            for i in range(3):
                entry = made.dice.randrange(len(made.entries))
                assignment = made.dice.randrange(len(made.assignments()))
                calls += [run(entry, assignment), there(entry, assignment, made.dice.randrange(len(made.names)))]
            found = ask(load(made.text()), *calls)
            self.assertEqual(found, [model.loaded()] + [model.answer(call) for call in calls], seed)


if __name__ == "__main__":
    unittest.main()
