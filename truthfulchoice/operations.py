"""The operations on an instance: each gives back its answer as a list of numbers."""

from truthfulchoice.analysis import first_inefficiency, first_manipulation, first_monotonicity_violation
from truthfulchoice.analysis import is_dictator, manipulation_count, mask_of
from truthfulchoice.rankings import all_rankings, has_single_peak, is_ranking
from truthfulchoice.refusals import INVALID, KNOWN_PREFERENCE, LIMIT_REACHED, NO_AGENT, NO_MANIPULATION, NOT_READY
from truthfulchoice.rules import borda, dictatorship, generalized_median, plurality, sequential_majority

DOMAIN_LIMIT = 6
FIRST_THAT_NEEDS_READY = 3
LAST_THAT_NEEDS_READY = 16


# An operation checks all that it refuses before it changes anything: a refusal leaves the state as it was.
def add_preference(instance, call):
    agent = call.numbers[0]
    if not instance.has_agent(agent):
        return [NO_AGENT]
    if not is_ranking(call.row, instance.alternative_count):
        return [INVALID]
    domain = instance.domains[agent]
    if call.row in domain:
        return [KNOWN_PREFERENCE]
    if len(domain) >= DOMAIN_LIMIT:
        return [LIMIT_REACHED]
    instance.replace_domain(agent, domain + [call.row])
    return [len(domain)]


def set_full_domain(instance, call):
    agent = call.numbers[0]
    if not instance.has_agent(agent):
        return [NO_AGENT]
    rankings = all_rankings(instance.alternative_count)
    # Of the counts of alternatives that there may be, 4 alone has more rankings than a domain may hold.
    if len(rankings) > DOMAIN_LIMIT:
        return [LIMIT_REACHED]
    instance.replace_domain(agent, rankings)
    return [len(rankings)]


def set_outcome(instance, call):
    alternative = call.numbers[0]
    if not instance.has_alternative(alternative) or not instance.has_profile(call.row):
        return [INVALID]
    place = instance.place_of(call.row)
    previous = instance.outcomes[place]
    instance.outcomes[place] = alternative
    return [previous]


def use_dictatorship(instance, call):
    agent = call.numbers[0]
    if not instance.has_agent(agent):
        return [NO_AGENT]
    instance.outcomes = [dictatorship(reported, agent) for reported in instance.reported_rankings()]
    return [0]


def use_generalized_median(instance, call):
    phantoms = call.row
    if len(phantoms) != instance.agent_count - 1:
        return [INVALID]
    if not all([instance.has_alternative(phantom) for phantom in phantoms]):
        return [INVALID]
    instance.outcomes = [generalized_median(reported, phantoms) for reported in instance.reported_rankings()]
    return [0]


def use_plurality(instance, call):
    instance.outcomes = [plurality(reported) for reported in instance.reported_rankings()]
    return [0]


def use_borda(instance, call):
    instance.outcomes = [borda(reported) for reported in instance.reported_rankings()]
    return [0]


def use_sequential_majority(instance, call):
    agenda = call.row
    if not is_ranking(agenda, instance.alternative_count):
        return [INVALID]
    instance.outcomes = [sequential_majority(reported, agenda) for reported in instance.reported_rankings()]
    return [0]


def outcome(instance, call):
    if not instance.has_profile(call.row):
        return [INVALID]
    return [instance.outcomes[instance.place_of(call.row)]]


def option_set(instance, call):
    agent = call.numbers[0]
    if not instance.has_agent(agent):
        return [NO_AGENT]
    if not instance.has_profile(call.row):
        return [INVALID]
    return [mask_of(instance.options(agent, call.row))]


def find_manipulation(instance, call):
    found = first_manipulation(instance)
    if found is None:
        return [NO_MANIPULATION]
    return found


def count_manipulations(instance, call):
    agent = call.numbers[0]
    if not instance.has_agent(agent):
        return [NO_AGENT]
    return [manipulation_count(instance, agent), len(instance.outcomes)]


# The document calls it range, which is a name of Python's own.
def outcome_range(instance, call):
    return [mask_of(instance.outcomes), len(set(instance.outcomes))]


def dictators(instance, call):
    found = [agent for agent in range(instance.agent_count) if is_dictator(instance, agent)]
    return [len(found)] + found


def found_or_not(found):
    if found is None:
        return [0]
    return [1] + found


def monotonicity_violation(instance, call):
    return found_or_not(first_monotonicity_violation(instance))


def inefficient_profile(instance, call):
    return found_or_not(first_inefficiency(instance))


def is_single_peaked(instance, call):
    agent = call.numbers[0]
    if not instance.has_agent(agent):
        return [NO_AGENT]
    domain = instance.domains[agent]
    if all([has_single_peak(ranking) for ranking in domain]):
        return [1, len(domain)]
    return [0, len(domain)]


def describe(instance, call):
    return [instance.agent_count, instance.alternative_count] + [len(domain) for domain in instance.domains]


OPERATIONS = {
    1: add_preference,
    2: set_full_domain,
    3: set_outcome,
    4: use_dictatorship,
    5: use_generalized_median,
    6: use_plurality,
    7: use_borda,
    8: use_sequential_majority,
    9: outcome,
    10: option_set,
    11: find_manipulation,
    12: count_manipulations,
    13: outcome_range,
    14: dictators,
    15: monotonicity_violation,
    16: inefficient_profile,
    17: is_single_peaked,
    18: describe,
}


def perform(instance, call):
    if FIRST_THAT_NEEDS_READY <= call.number <= LAST_THAT_NEEDS_READY and not instance.is_ready():
        return [NOT_READY]
    return OPERATIONS[call.number](instance, call)
