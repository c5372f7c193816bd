"""Preferences: rankings of all alternatives, the best one first."""


def is_ranking(row, alternative_count):
    return sorted(row) == list(range(alternative_count))


def all_rankings(alternative_count):
    rankings = [[]]
    while len(rankings[0]) < alternative_count:
        longer = []
        for beginning in rankings:
            for alternative in range(alternative_count):
                if alternative not in beginning:
                    longer.append(beginning + [alternative])
        rankings = longer
    return rankings


def prefers(ranking, one, other):
    return ranking.index(one) < ranking.index(other)


def has_single_peak(ranking):
    for middle in range(len(ranking)):
        for low in range(middle):
            for high in range(middle + 1, len(ranking)):
                if not prefers(ranking, middle, low) and not prefers(ranking, middle, high):
                    return False
    return True
