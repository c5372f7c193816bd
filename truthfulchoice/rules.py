"""The rules: each gives the outcome of one profile, told as the ranking that each agent reports."""

from truthfulchoice.rankings import prefers


def dictatorship(reported, agent):
    return reported[agent][0]


def generalized_median(reported, phantoms):
    peaks = [ranking[0] for ranking in reported]
    return sorted(peaks + phantoms)[len(reported) - 1]


# `index` finds the first of equals, so ties go to the lowest number.
def lowest_with_most(scores):
    return scores.index(max(scores))


def plurality(reported):
    scores = [0] * len(reported[0])
    for ranking in reported:
        scores[ranking[0]] += 1
    return lowest_with_most(scores)


def borda(reported):
    scores = [0] * len(reported[0])
    for ranking in reported:
        for rank, alternative in enumerate(ranking):
            scores[alternative] += len(ranking) - 1 - rank
    return lowest_with_most(scores)


def sequential_majority(reported, agenda):
    current = agenda[0]
    for challenger in agenda[1:]:
        supporters = [ranking for ranking in reported if prefers(ranking, challenger, current)]
        if 2 * len(supporters) > len(reported):
            current = challenger
    return current
