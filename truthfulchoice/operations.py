"""The operations on an instance: each gives back its answer as a list of numbers."""

from truthfulchoice.rankings import all_rankings, is_ranking
from truthfulchoice.refusals import INVALID, KNOWN_PREFERENCE, LIMIT_REACHED, NO_AGENT, NOT_READY
from truthfulchoice.rules import borda, dictatorship, generalized_median, plurality, sequential_majority

DOMAIN_LIMIT = 6
FIRST_THAT_NEEDS_READY = 3
LAST_THAT_NEEDS_READY = 16


# An operation checks all that it refuses before it changes anything: a refusal leaves the state as it was.
def add_preference(instance, call):
    agent = call.numbers[0]
    if not instance.has_agent(agent):
        return [NO_AGENT]
    if not is_ranking(call.row, instance.alternative_count):
        return [INVALID]
    domain = instance.domains[agent]
    if call.row in domain:
        return [KNOWN_PREFERENCE]
    if len(domain) >= DOMAIN_LIMIT:
        return [LIMIT_REACHED]
    instance.replace_domain(agent, domain + [call.row])
    return [len(domain)]


def set_full_domain(instance, call):
    agent = call.numbers[0]
    if not instance.has_agent(agent):
        return [NO_AGENT]
    rankings = all_rankings(instance.alternative_count)
    # Of the counts of alternatives that there may be, 4 alone has more rankings than a domain may hold.
    if len(rankings) > DOMAIN_LIMIT:
        return [LIMIT_REACHED]
    instance.replace_domain(agent, rankings)
    return [len(rankings)]


def set_outcome(instance, call):
    alternative = call.numbers[0]
    if not instance.has_alternative(alternative) or not instance.has_profile(call.row):
        return [INVALID]
    place = instance.place_of(call.row)
    previous = instance.outcomes[place]
    instance.outcomes[place] = alternative
    return [previous]


def use_dictatorship(instance, call):
    agent = call.numbers[0]
    if not instance.has_agent(agent):
        return [NO_AGENT]
    instance.outcomes = [dictatorship(reported, agent) for reported in instance.reported_rankings()]
    return [0]


def use_generalized_median(instance, call):
    phantoms = call.row
    if len(phantoms) != instance.agent_count - 1:
        return [INVALID]
    if not all([instance.has_alternative(phantom) for phantom in phantoms]):
        return [INVALID]
    instance.outcomes = [generalized_median(reported, phantoms) for reported in instance.reported_rankings()]
    return [0]


def use_plurality(instance, call):
    instance.outcomes = [plurality(reported) for reported in instance.reported_rankings()]
    return [0]


def use_borda(instance, call):
    instance.outcomes = [borda(reported) for reported in instance.reported_rankings()]
    return [0]


def use_sequential_majority(instance, call):
    agenda = call.row
    if not is_ranking(agenda, instance.alternative_count):
        return [INVALID]
    instance.outcomes = [sequential_majority(reported, agenda) for reported in instance.reported_rankings()]
    return [0]


def outcome(instance, call):
    if not instance.has_profile(call.row):
        return [INVALID]
    return [instance.outcomes[instance.place_of(call.row)]]


OPERATIONS = {
    1: add_preference,
    2: set_full_domain,
    3: set_outcome,
    4: use_dictatorship,
    5: use_generalized_median,
    6: use_plurality,
    7: use_borda,
    8: use_sequential_majority,
    9: outcome,
}


def perform(instance, call):
    if FIRST_THAT_NEEDS_READY <= call.number <= LAST_THAT_NEEDS_READY and not instance.is_ready():
        return [NOT_READY]
    return OPERATIONS[call.number](instance, call)
