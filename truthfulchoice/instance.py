"""The state of an instance: the domain of each agent and the outcome of each profile."""


# All ways to take one member of each list, in lexicographic order of their places.
def every_choice(lists):
    choices = [[]]
    for members in lists:
        longer = []
        for beginning in choices:
            for member in members:
                longer.append(beginning + [member])
        choices = longer
    return choices


# The outcomes stand in the order of the profiles, so the place of a profile tells its outcome.
class Instance:
    def __init__(self, agent_count, alternative_count):
        self.agent_count = agent_count
        self.alternative_count = alternative_count
        self.domains = [[] for agent in range(agent_count)]
        self.outcomes = []

    def is_ready(self):
        return [] not in self.domains

    def has_agent(self, agent):
        return agent < self.agent_count

    def has_alternative(self, alternative):
        return alternative < self.alternative_count

    def has_profile(self, row):
        if len(row) != self.agent_count:
            return False
        return all([report < len(domain) for report, domain in zip(row, self.domains)])

    def replace_domain(self, agent, domain):
        self.domains[agent] = domain
        self.outcomes = [0] * len(self.all_profiles())

    def all_profiles(self):
        return every_choice([list(range(len(domain))) for domain in self.domains])

    # For each profile, in order: the ranking that each agent reports, as the rules ask for it.
    def reported_rankings(self):
        return every_choice(self.domains)

    def place_of(self, profile):
        place = 0
        for report, domain in zip(profile, self.domains):
            place = place * len(domain) + report
        return place

    # How far apart two profiles stand where this agent alone reports the next preference.
    def step_of(self, agent):
        step = 1
        for domain in self.domains[agent + 1:]:
            step *= len(domain)
        return step

    # For each preference of the agent, in order: the outcome if the agent reports it and nobody else moves.
    def options(self, agent, profile):
        step = self.step_of(agent)
        start = self.place_of(profile) - profile[agent] * step
        return self.outcomes[start:start + len(self.domains[agent]) * step:step]
