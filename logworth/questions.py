"""The calls that ask about the log, the policies and the model of a study and leave it as it is."""

from logworth.estimators import importances, mean_reward, terms_of, variance_of_mean
from logworth.limits import (
    MOST_FACTOR,
    MOST_ROUNDS,
    check_context,
    check_decision,
    check_estimator,
    check_events,
    check_policy,
    check_positive,
    check_range,
)
from logworth.ratio import Ratio, common_bottom, greatest, mean, tops_over, total, whole
from logworth.resampling import resampled_sums


def propensity(study, policy, context, action):
    """Answer the probability with which the policy chooses the action."""
    check_policy(policy)
    check_decision(study, context, action)
    return [0] + study.policies[policy].chance(context, action).pair()


def checked_terms(study, policy, kind, limit, least):
    """Give back the terms of a policy, of which there are at least so many."""
    check_policy(policy)
    check_estimator(kind, limit)
    check_events(study.events, least)
    return terms_of(study, study.policies[policy], kind, limit, study.events)


def estimate(study, policy, kind, limit):
    """Answer the estimate of the policy."""
    return [0] + mean(checked_terms(study, policy, kind, limit, 1)).pair()


def normalized(study, policy):
    """Answer the normalized estimate of the policy."""
    check_policy(policy)
    factors = importances(study, study.policies[policy])
    divisor = total(factors)
    check_positive(divisor)
    weighted = [factor.times(whole(event.reward)) for factor, event in zip(factors, study.events)]
    return [0] + total(weighted).over(divisor).pair()


def replay(study, policy):
    """Answer the number and the mean reward of the events with the preferred action."""
    check_policy(policy)
    chosen = study.policies[policy]
    agreeing = [event for event in study.events if event.action == chosen.preferred(event.context)]
    check_events(agreeing, 1)
    return [len(agreeing)] + mean_reward(agreeing).pair()


def effective_size(study, policy):
    """Answer to how many equally important events the log amounts."""
    check_policy(policy)
    factors = importances(study, study.policies[policy])
    divisor = total([factor.squared() for factor in factors])
    check_positive(divisor)
    return [0] + total(factors).squared().over(divisor).pair()


def variance(study, policy, kind, limit):
    """Answer the variance of the estimate of the policy."""
    return [0] + variance_of_mean(checked_terms(study, policy, kind, limit, 2)).pair()


def interval(study, policy, kind, limit, factor):
    """Answer the estimate of the policy and the square of the radius around it."""
    check_range(factor, 1, MOST_FACTOR)
    terms = checked_terms(study, policy, kind, limit, 2)
    radius = variance_of_mean(terms).times(whole(factor))
    return [0] + mean(terms).pair() + radius.pair()


def compare(study, first, second, kind, limit):
    """Answer by how much the first policy is better than the second one, and the variance of that."""
    check_policy(second)
    terms = checked_terms(study, first, kind, limit, 2)
    others = terms_of(study, study.policies[second], kind, limit, study.events)
    differences = [term.minus(other) for term, other in zip(terms, others)]
    return [0] + mean(differences).pair() + variance_of_mean(differences).pair()


def by_context(study, policy, kind, limit):
    """Answer for each context the number of its events and the mean of their terms."""
    terms = checked_terms(study, policy, kind, limit, 1)
    answered = [study.contexts]
    for context in range(study.contexts):
        places = [place for place, event in enumerate(study.events) if event.context == context]
        answered.append(len(places))
        answered.extend(mean([terms[place] for place in places]).pair())
    return answered


def greatest_weight(study, policy):
    """Answer the greatest importance of an event."""
    check_policy(policy)
    check_events(study.events, 1)
    return [0] + greatest(importances(study, study.policies[policy])).pair()


def model_info(study, context):
    """Answer the estimated reward of each action in the context."""
    check_context(study, context)
    answered = [study.actions]
    for reward in study.model[context]:
        answered.extend(reward.pair())
    return answered


def bootstrap(study, policy, kind, limit, rounds, seed):
    """Answer the least, the median and the greatest estimate of the resampled events."""
    check_range(rounds, 1, MOST_ROUNDS)
    terms = checked_terms(study, policy, kind, limit, 1)
    # Over one bottom the drawn terms are added and sorted as whole numbers, without a fraction for each sum.
    bottom = common_bottom(terms)
    sums = sorted(resampled_sums(tops_over(terms, bottom), rounds, seed))
    answered = [0]
    for place in (0, (rounds - 1) // 2, rounds - 1):
        answered.extend(Ratio(sums[place], bottom * len(terms)).pair())
    return answered


def status(study):
    """Answer how large the study and its log are."""
    rewards = [event.reward for event in study.events]
    return [study.contexts, study.actions, len(rewards), sum(rewards)]


QUESTIONS = {
    9: propensity,
    10: estimate,
    11: normalized,
    12: replay,
    13: effective_size,
    14: variance,
    15: interval,
    16: compare,
    17: by_context,
    18: greatest_weight,
    19: model_info,
    23: bootstrap,
    28: status,
}
