"""The calls that measure a ranked list; none of them looks at the study."""

from logworth.limits import MOST_RANKS, check_gains, check_positive, check_range, check_ranks, check_relevance
from logworth.ratio import Ratio, mean, total, whole


def precision_at(count, relevance):
    """Give back the part of the first ranks that is relevant."""
    return Ratio(sum(relevance[:count]), count)


def relevant_ranks(relevance):
    """Give back the ranks of all relevant ones."""
    return [rank for rank, number in enumerate(relevance, start=1) if number == 1]


def reciprocal_rank(ranks):
    """Give back 1 divided by the first of the ranks, 0 if there are none."""
    if len(ranks) == 0:
        return whole(0)
    return Ratio(1, ranks[0])


def discounted_gain(gains):
    """Give back the sum of all gains, each divided by its rank."""
    return total([Ratio(gain, rank) for rank, gain in enumerate(gains, start=1)])


def precision(count, relevance):
    """Answer the precision of the first ranks."""
    check_range(count, 1, MOST_RANKS)
    check_relevance(relevance)
    return [0] + precision_at(count, relevance).pair()


def rank_measures(relevance):
    """Answer the number of relevant ones, the average precision and the reciprocal rank."""
    check_relevance(relevance)
    ranks = relevant_ranks(relevance)
    average = mean([precision_at(rank, relevance) for rank in ranks])
    return [len(ranks)] + average.pair() + reciprocal_rank(ranks).pair()


def gain_measures(gains):
    """Answer the discounted gain, and which part of the ideal one it is."""
    check_gains(gains)
    gain = discounted_gain(gains)
    check_positive(gain)
    ideal = discounted_gain(sorted(gains, reverse=True))
    return [0] + gain.pair() + gain.over(ideal).pair()


def order_measure(ranks):
    """Answer how many pairs increase, how many decrease, and the part by which the increasing ones outweigh."""
    check_ranks(ranks)
    increasing = 0
    decreasing = 0
    for place, first in enumerate(ranks):
        later = ranks[place + 1:]
        increasing += len([second for second in later if first < second])
        decreasing += len([second for second in later if first > second])
    pairs = len(ranks) * (len(ranks) - 1) // 2
    return [increasing, decreasing] + Ratio(increasing - decreasing, pairs).pair()


RANKED = {
    24: precision,
    25: rank_measures,
    26: gain_measures,
    27: order_measure,
}
