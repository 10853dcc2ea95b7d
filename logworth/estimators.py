"""Importances, the terms of the estimators, and what is worked out from terms."""

from logworth.ratio import Ratio, mean, total, whole

DIRECT = 0
CLIPPED = 2
ROBUST = 3


def importance(policy, event):
    """Give back how much more probable the policy makes the event."""
    return policy.chance(event.context, event.action).over(event.propensity)


def importances(study, policy):
    """Give back the importance of each event."""
    return [importance(policy, event) for event in study.events]


def direct_value(study, policy, context):
    """Give back the reward that the policy has in the context by the model."""
    estimates = study.model[context]
    parts = [policy.chance(context, action).times(reward) for action, reward in enumerate(estimates)]
    return total(parts)


def correction(study, policy, event):
    """Give back what the reward of the event adds to the direct value."""
    estimated = study.model[event.context][event.action]
    return importance(policy, event).times(whole(event.reward).minus(estimated))


def term_of(study, policy, kind, limit, event):
    """Give back the term of one event; the limit is in hundredths."""
    if kind == DIRECT:
        return direct_value(study, policy, event.context)
    if kind == ROBUST:
        return direct_value(study, policy, event.context).plus(correction(study, policy, event))
    factor = importance(policy, event)
    if kind == CLIPPED:
        factor = factor.smaller(Ratio(limit, 100))
    return factor.times(whole(event.reward))


def terms_of(study, policy, kind, limit, events):
    """Give back the term of each of the events."""
    return [term_of(study, policy, kind, limit, event) for event in events]


def variance_of_mean(terms):
    """Give back the variance of the mean of at least two terms."""
    middle = mean(terms)
    squares = [term.minus(middle).squared() for term in terms]
    return total(squares).over(whole((len(terms) - 1) * len(terms)))


def mean_reward(events):
    """Give back the mean reward of at least one event."""
    return Ratio(sum([event.reward for event in events]), len(events))


def fitted_estimate(events, context, action):
    """Give back the estimated reward that the events themselves suggest."""
    with_action = [event for event in events if event.action == action]
    with_both = [event for event in with_action if event.context == context]
    if len(with_both) > 0:
        return mean_reward(with_both)
    if len(with_action) > 0:
        return mean_reward(with_action)
    return whole(0)
