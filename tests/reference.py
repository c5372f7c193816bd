"""Answers worked out in another way than the program does: straight from the document's words.

Nothing here is taken from the program, and nothing is made quick.
"""

import itertools


def prefers(preference, x, y):
    return preference.index(x) < preference.index(y)


def mask(alternatives):
    return sum(2 ** x for x in set(alternatives))


class Refused(Exception):
    """Its argument is the error code."""


class Reference:
    """One instance, or none yet. The social choice function is a dict from profiles to alternatives."""

    def __init__(self):
        self.domains = None
        self.alternatives = None
        self.function = None

    def answer(self, call):
        """What is answered to one call, as a list."""
        number, arguments = call[0], call[1:]
        if number in (1, 3, 10):
            arguments = [arguments[0], list(arguments[2:])]
        elif number in (5, 8, 9):
            arguments = [list(arguments[1:])]
        try:
            if number != 0 and self.domains is None:
                raise Refused(-11)
            if 3 <= number <= 16 and not all(self.domains):
                raise Refused(-16)
            return list(getattr(self, "call_" + str(number))(*arguments))
        except Refused as refused:
            return [refused.args[0]]

    # What the words of the document mean.

    def agents(self):
        return range(len(self.domains))

    def profiles(self):
        return sorted(itertools.product(*[range(len(domain)) for domain in self.domains]))

    def preference(self, agent, profile):
        return self.domains[agent][profile[agent]]

    def preferences(self, profile):
        return [self.preference(agent, profile) for agent in self.agents()]

    def is_profile(self, row):
        return tuple(row) in self.function

    def is_ranking(self, row):
        return len(row) == len(self.alternatives) and set(row) == set(self.alternatives)

    def others(self, agent, profile):
        return [report for other, report in enumerate(profile) if other != agent]

    def by_another_report(self, agent, profile):
        """The profiles in which all others report as in the profile, by what the agent reports."""
        same = self.others(agent, profile)
        return {found[agent]: found for found in self.profiles() if self.others(agent, found) == same}

    def manipulations(self):
        """The profile, the agent and the index of the other preference of each, in their order."""
        found = []
        for profile in self.profiles():
            for agent in self.agents():
                for other, changed in self.by_another_report(agent, profile).items():
                    if prefers(self.preference(agent, profile), self.function[changed], self.function[profile]):
                        found.append((profile, agent, other))
        return sorted(found)

    def range(self):
        return set(self.function.values())

    def not_preferred(self, agent, profile, x):
        return {y for y in self.alternatives if not prefers(self.preference(agent, profile), y, x)}

    def is_violation(self, p, q):
        x, y = self.function[p], self.function[q]
        kept = [self.not_preferred(agent, p, x) <= self.not_preferred(agent, q, x) for agent in self.agents()]
        return x != y and all(kept)

    def check_agent(self, agent):
        if agent not in self.agents():
            raise Refused(-2)

    def check(self, good):
        if not good:
            raise Refused(-22)

    # The rules: the outcome of a profile.

    def set_all(self, outcome):
        self.function = {profile: outcome(self.preferences(profile)) for profile in self.profiles()}

    def most(self, score):
        """The lowest of the alternatives with the highest score."""
        highest = max(score(x) for x in self.alternatives)
        return min(x for x in self.alternatives if score(x) == highest)

    def median(self, preferences, phantoms):
        return sorted([preference[0] for preference in preferences] + phantoms)[len(preferences) - 1]

    def plurality(self, preferences):
        return self.most(lambda x: len([1 for preference in preferences if preference[0] == x]))

    def borda(self, preferences):
        m = len(self.alternatives)
        return self.most(lambda x: sum(m - 1 - preference.index(x) for preference in preferences))

    def majority(self, preferences, agenda):
        current = agenda[0]
        for following in agenda[1:]:
            if len([1 for preference in preferences if prefers(preference, following, current)]) * 2 > len(preferences):
                current = following
        return current

    # The calls.

    def call_0(self, agent_count, alternative_count):
        self.check(agent_count in (1, 2, 3) and alternative_count in (2, 3, 4))
        self.domains = [[] for agent in range(agent_count)]
        self.alternatives = range(alternative_count)
        self.function = {}
        return [0]

    def call_1(self, agent, ranking):
        self.check_agent(agent)
        self.check(self.is_ranking(ranking))
        if ranking in self.domains[agent]:
            raise Refused(-17)
        if len(self.domains[agent]) == 6:
            raise Refused(-28)
        self.domains[agent].append(ranking)
        self.set_all(lambda preferences: 0)
        return [len(self.domains[agent]) - 1]

    def call_2(self, agent):
        self.check_agent(agent)
        if len(self.alternatives) == 4:
            raise Refused(-28)
        self.domains[agent] = [list(ranking) for ranking in sorted(itertools.permutations(self.alternatives))]
        self.set_all(lambda preferences: 0)
        return [len(self.domains[agent])]

    def call_3(self, alternative, profile):
        self.check(alternative in self.alternatives and self.is_profile(profile))
        previous = self.function[tuple(profile)]
        self.function[tuple(profile)] = alternative
        return [previous]

    def call_4(self, agent):
        self.check_agent(agent)
        self.set_all(lambda preferences: preferences[agent][0])
        return [0]

    def call_5(self, phantoms):
        self.check(len(phantoms) == len(self.domains) - 1 and all(x in self.alternatives for x in phantoms))
        self.set_all(lambda preferences: self.median(preferences, phantoms))
        return [0]

    def call_6(self):
        self.set_all(self.plurality)
        return [0]

    def call_7(self):
        self.set_all(self.borda)
        return [0]

    def call_8(self, agenda):
        self.check(self.is_ranking(agenda))
        self.set_all(lambda preferences: self.majority(preferences, agenda))
        return [0]

    def call_9(self, profile):
        self.check(self.is_profile(profile))
        return [self.function[tuple(profile)]]

    def call_10(self, agent, profile):
        self.check_agent(agent)
        self.check(self.is_profile(profile))
        return [mask(self.function[found] for found in self.by_another_report(agent, profile).values())]

    def call_11(self):
        found = self.manipulations()
        if not found:
            raise Refused(-33)
        profile, agent, other = found[0]
        return [agent, other, *profile]

    def call_12(self, agent):
        self.check_agent(agent)
        return [len([1 for found in self.manipulations() if found[1] == agent]), len(self.profiles())]

    def call_13(self):
        return [mask(self.range()), len(self.range())]

    def call_14(self):
        found = []
        for agent in self.agents():
            better = [
                x for profile in self.profiles() for x in self.range()
                if prefers(self.preference(agent, profile), x, self.function[profile])]
            if not better:
                found.append(agent)
        return [len(found), *found]

    def call_15(self):
        for p, q in itertools.product(self.profiles(), repeat=2):
            if self.is_violation(p, q):
                return [1, *p, *q]
        return [0]

    def call_16(self):
        for profile in self.profiles():
            for x in self.alternatives:
                if all(prefers(preference, x, self.function[profile]) for preference in self.preferences(profile)):
                    return [1, x, *profile]
        return [0]

    def call_17(self, agent):
        self.check_agent(agent)
        single_peaked = all(
            prefers(preference, y, x) or prefers(preference, y, z)
            for preference in self.domains[agent] for x, y, z in itertools.combinations(self.alternatives, 3))
        return [1 if single_peaked else 0, len(self.domains[agent])]

    def call_18(self):
        return [len(self.domains), len(self.alternatives)] + [len(domain) for domain in self.domains]


def expected_answers(calls):
    """What is answered to each call, one behind another on one instance."""
    reference = Reference()
    return [reference.answer(call) for call in calls]
