"""What a social choice function is like: manipulations, dictators, monotonicity and efficiency."""

from truthfulchoice.rankings import prefers


def mask_of(alternatives):
    mask = 0
    for alternative in alternatives:
        mask |= 1 << alternative
    return mask


# The indexes of the preferences that the agent gains by when it reports them in place of its own.
def gaining_reports(instance, agent, profile):
    own_report = profile[agent]
    own_ranking = instance.domains[agent][own_report]
    options = instance.options(agent, profile)
    return [other for other, option in enumerate(options) if prefers(own_ranking, option, options[own_report])]


# The agent, the index of the other preference and the profile, or None.
def first_manipulation(instance):
    for profile in instance.all_profiles():
        for agent in range(instance.agent_count):
            gaining = gaining_reports(instance, agent, profile)
            if len(gaining) > 0:
                return [agent, gaining[0]] + profile
    return None


def manipulation_count(instance, agent):
    return sum([len(gaining_reports(instance, agent, profile)) for profile in instance.all_profiles()])


def is_dictator(instance, agent):
    selectable = sorted(set(instance.outcomes))
    for reported, selected in zip(instance.reported_rankings(), instance.outcomes):
        if any([prefers(reported[agent], other, selected) for other in selectable]):
            return False
    return True


# What each agent doesn't prefer to the alternative, side by side in one number: so all agents are compared at once.
def not_preferred(reported, alternative):
    joined = 0
    for ranking in reported:
        joined = (joined << len(ranking)) | mask_of(ranking[ranking.index(alternative):])
    return joined


# For each alternative: what isn't preferred to it, for each profile in order.
def not_preferred_by_alternative(instance):
    all_reported = instance.reported_rankings()
    found = []
    for alternative in range(instance.alternative_count):
        found.append([not_preferred(reported, alternative) for reported in all_reported])
    return found


# The masks are those of the outcome at `place`; the answer is the place of the other profile, or None.
def first_that_violates(place, outcomes, masks):
    selected = outcomes[place]
    kept = masks[place]
    for other, mask in enumerate(masks):
        if kept & mask == kept and outcomes[other] != selected:
            return other
    return None


# The profiles p and q, one behind the other, or None.
def first_monotonicity_violation(instance):
    profiles = instance.all_profiles()
    masks = not_preferred_by_alternative(instance)
    for place, selected in enumerate(instance.outcomes):
        other = first_that_violates(place, instance.outcomes, masks[selected])
        if other is not None:
            return profiles[place] + profiles[other]
    return None


# The lowest alternative that every agent prefers to the outcome, and the profile; or None.
def first_inefficiency(instance):
    for profile, reported, selected in zip(instance.all_profiles(), instance.reported_rankings(), instance.outcomes):
        for alternative in range(instance.alternative_count):
            if all([prefers(ranking, alternative, selected) for ranking in reported]):
                return [alternative] + profile
    return None
