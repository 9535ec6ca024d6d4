"""The formula that tells one state from another."""

from alikestates.likeness import steps_to_part

MOST_TOLD = 500


class Plan:
    # How the formula for a pair is made: its beginning, and behind it those
    # for other pairs, all of which part after fewer steps.
    def __init__(self, steps, beginning, others):
        self.steps = steps
        self.beginning = beginning
        self.others = others


class Teller:
    def __init__(self, system, found):
        self.colours = system.colours
        self.found = found
        self.reached = reached_by_labels(system)

    def plan_by_arc(self, steps, s, t):
        alike = self.found[steps - 1]
        for label, reached in self.reached[s].items():
            rivals = self.reached[t].get(label, [])
            taken = [alike[v] for v in rivals]
            for u in reached:
                if alike[u] not in taken:
                    beginning = f"<{label}>" if rivals else f"<{label}>t"
                    return Plan(steps, beginning, [(u, v) for v in rivals])
        return None

    def plan_for(self, s, t):
        steps = steps_to_part(self.found, s, t)
        if steps == 0:
            return Plan(0, "c" + str(self.colours[s]), [])
        plan = self.plan_by_arc(steps, s, t)
        if plan is None:
            plan = self.plan_by_arc(steps, t, s)
            plan.beginning = "!" + plan.beginning
        return plan

    def plans_for(self, s, t):
        plans = {}
        wanted = [(s, t)]
        while wanted:
            pair = wanted.pop()
            if pair not in plans:
                plans[pair] = self.plan_for(pair[0], pair[1])
                wanted.extend(plans[pair].others)
        return plans


def reached_by_labels(system):
    reached = [{} for colour in system.colours]
    # Labels come in rising order, and so do the states each leads to.
    for s, label, t in sorted(system.arcs):
        reached[s].setdefault(label, []).append(t)
    return reached


def all_of(texts):
    if not texts:
        return ""
    return "".join([f"({text}&" for text in texts[:-1]]) + texts[-1] + ")" * (len(texts) - 1)


def formula_that_tells(system, found, s, t):
    plans = Teller(system, found).plans_for(s, t)
    texts = {}
    for pair in sorted(plans, key=lambda planned: plans[planned].steps):
        plan = plans[pair]
        texts[pair] = plan.beginning + all_of([texts[other] for other in plan.others])
        # It is a part of the whole, so the whole is longer yet: it could have
        # millions of bytes, and isn't made.
        if len(texts[pair]) > MOST_TOLD:
            return None
    return texts[(s, t)]
