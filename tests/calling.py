"""Writes calls as the interface wants them and reads what is answered."""

import itertools

from truthfulchoice.profiles import answers

NO_INSTANCE = -11
NOT_READY = -16
NO_AGENT = -2
INVALID = -22
KNOWN_PREFERENCE = -17
LIMIT_REACHED = -28
NO_MANIPULATION = -33

LARGEST = 4294967295


def create(agent_count, alternative_count):
    return [0, agent_count, alternative_count]


def add_preference(agent, ranking):
    return [1, agent, len(ranking)] + list(ranking)


def set_full_domain(agent):
    return [2, agent]


def set_outcome(alternative, profile):
    return [3, alternative, len(profile)] + list(profile)


def use_dictatorship(agent):
    return [4, agent]


def use_generalized_median(phantoms):
    return [5, len(phantoms)] + list(phantoms)


def use_plurality():
    return [6]


def use_borda():
    return [7]


def use_sequential_majority(agenda):
    return [8, len(agenda)] + list(agenda)


def outcome(profile):
    return [9, len(profile)] + list(profile)


def option_set(agent, profile):
    return [10, agent, len(profile)] + list(profile)


def find_manipulation():
    return [11]


def count_manipulations(agent):
    return [12, agent]


def outcome_range():
    return [13]


def dictators():
    return [14]


def monotonicity_violation():
    return [15]


def inefficient_profile():
    return [16]


def is_single_peaked(agent):
    return [17, agent]


def describe():
    return [18]


def flat(calls):
    return [number for call in calls for number in call]


def ask(calls):
    """What is answered to each call, as one list of numbers for each."""
    told = answers(flat(calls))
    for number in told:
        if type(number) is not int:
            raise AssertionError(f"{number!r} is not a whole number")
    found = []
    place = 0
    while place < len(told):
        end = place + 1 + told[place]
        if end > len(told):
            raise AssertionError("fewer numbers are answered than told")
        found.append(told[place + 1:end])
        place = end
    if len(found) != len(calls):
        raise AssertionError(f"{len(calls)} calls, {len(found)} answers")
    return found


def tell(calls):
    """What is answered to each call, where each answers one number."""
    found = ask(calls)
    for answer in found:
        if len(answer) != 1:
            raise AssertionError(f"{answer!r} is not one number")
    return [answer[0] for answer in found]


def last_answer(calls):
    return ask(calls)[-1]


def build(agent_count, alternative_count, domains):
    """The calls that create an instance with these domains."""
    calls = [create(agent_count, alternative_count)]
    for agent, domain in enumerate(domains):
        calls += [add_preference(agent, ranking) for ranking in domain]
    return calls


def rankings(alternative_count):
    return [list(ranking) for ranking in itertools.permutations(range(alternative_count))]


def profiles(sizes):
    return [list(profile) for profile in itertools.product(*[range(size) for size in sizes])]


def full_domains(agent_count, alternative_count):
    """The calls that create an instance in which every agent has the full domain."""
    calls = [create(agent_count, alternative_count)]
    return calls + [set_full_domain(agent) for agent in range(agent_count)]


def with_outcomes(domains, selected):
    """The calls that create an instance with these domains and the outcome of each profile, in order."""
    calls = build(len(domains), len(domains[0][0]), domains)
    return calls + changes_to(profiles([len(domain) for domain in domains]), selected)


def changes_to(asked, selected):
    """The calls that set these outcomes where all are 0."""
    return [set_outcome(alternative, profile) for profile, alternative in zip(asked, selected) if alternative != 0]


def outcomes_of(calls, sizes):
    """The outcomes of all profiles, in order, after the calls; `sizes` are those of the domains."""
    asked = [outcome(profile) for profile in profiles(sizes)]
    return tell(calls + asked)[len(calls):]
