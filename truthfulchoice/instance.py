"""The state of an instance: the domain of each agent and the outcome of each profile."""


# The outcomes stand in the order of the profiles, so the place of a profile tells its outcome.
class Instance:
    def __init__(self, agent_count, alternative_count):
        self.agent_count = agent_count
        self.alternative_count = alternative_count
        self.domains = [[] for agent in range(agent_count)]
        self.outcomes = []

    def is_ready(self):
        return [] not in self.domains

    def has_agent(self, agent):
        return agent < self.agent_count

    def has_alternative(self, alternative):
        return alternative < self.alternative_count

    def has_profile(self, row):
        if len(row) != self.agent_count:
            return False
        return all([report < len(domain) for report, domain in zip(row, self.domains)])

    def replace_domain(self, agent, domain):
        self.domains[agent] = domain
        self.outcomes = [0] * len(self.reported_rankings())

    # For each profile, in order: the ranking that each agent reports, as the rules ask for it.
    def reported_rankings(self):
        profiles = [[]]
        for domain in self.domains:
            longer = []
            for beginning in profiles:
                for ranking in domain:
                    longer.append(beginning + [ranking])
            profiles = longer
        return profiles

    def place_of(self, profile):
        place = 0
        for report, domain in zip(profile, self.domains):
            place = place * len(domain) + report
        return place
