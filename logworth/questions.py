"""The calls that ask something of a study and leave it as it is."""

from logworth.estimators import importances, mean_reward, terms_of, variance_of_mean
from logworth.limits import check_decision, check_estimator, check_events, check_policy, check_positive
from logworth.ratio import mean, total, whole


def propensity(study, policy, context, action):
    """Answer the probability with which the policy chooses the action."""
    check_policy(policy)
    check_decision(study, context, action)
    return [0] + study.policies[policy].chance(context, action).pair()


def checked_terms(study, policy, kind, limit, least):
    """Give back the terms of a policy, of which there are at least so many."""
    check_policy(policy)
    check_estimator(kind, limit)
    check_events(study.events, least)
    return terms_of(study, study.policies[policy], kind, limit)


def estimate(study, policy, kind, limit):
    """Answer the estimate of the policy."""
    return [0] + mean(checked_terms(study, policy, kind, limit, 1)).pair()


def normalized(study, policy):
    """Answer the normalized estimate of the policy."""
    check_policy(policy)
    factors = importances(study, study.policies[policy])
    divisor = total(factors)
    check_positive(divisor)
    weighted = [factor.times(whole(event.reward)) for factor, event in zip(factors, study.events)]
    return [0] + total(weighted).over(divisor).pair()


def replay(study, policy):
    """Answer the number and the mean reward of the events with the preferred action."""
    check_policy(policy)
    chosen = study.policies[policy]
    agreeing = [event for event in study.events if event.action == chosen.preferred(event.context)]
    check_events(agreeing, 1)
    return [len(agreeing)] + mean_reward(agreeing).pair()


def effective_size(study, policy):
    """Answer to how many equally important events the log amounts."""
    check_policy(policy)
    factors = importances(study, study.policies[policy])
    divisor = total([factor.squared() for factor in factors])
    check_positive(divisor)
    return [0] + total(factors).squared().over(divisor).pair()


def variance(study, policy, kind, limit):
    """Answer the variance of the estimate of the policy."""
    return [0] + variance_of_mean(checked_terms(study, policy, kind, limit, 2)).pair()


QUESTIONS = {
    9: propensity,
    10: estimate,
    11: normalized,
    12: replay,
    13: effective_size,
    14: variance,
}
