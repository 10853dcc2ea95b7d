"""The calls that change a study: each checks all it is given before it changes anything."""

from logworth.estimators import fitted_estimate
from logworth.limits import (
    MOST_ACTIONS,
    MOST_CONTEXTS,
    MOST_DEN,
    MOST_WEIGHT,
    check_context,
    check_decision,
    check_events,
    check_policy,
    check_positive,
    check_range,
    check_reward,
    check_rewards,
    check_room,
    check_weights,
)
from logworth.ratio import Ratio, whole
from logworth.state import Event, Policy, Study


def create(contexts, actions):
    """Give back a new study."""
    check_range(contexts, 1, MOST_CONTEXTS)
    check_range(actions, 1, MOST_ACTIONS)
    return Study(contexts, actions)


def keep_event(study, event):
    """Add the event, if there is room for it, and answer the number of events."""
    check_room(study)
    study.events.append(event)
    return [len(study.events)]


def add_event(study, context, action, reward, num, den):
    """Add an event with the propensity num / den."""
    check_decision(study, context, action)
    check_reward(reward)
    check_range(den, 1, MOST_DEN)
    check_range(num, 1, den)
    return keep_event(study, Event(context, action, reward, Ratio(num, den)))


def remove_last(study):
    """Remove the last event."""
    check_events(study.events, 1)
    study.events.pop()
    return [len(study.events)]


def log_event(study, policy, context, action, reward):
    """Add an event that the policy made."""
    check_policy(policy)
    check_decision(study, context, action)
    check_reward(reward)
    propensity = study.policies[policy].chance(context, action)
    check_positive(propensity)
    return keep_event(study, Event(context, action, reward, propensity))


def set_policy(study, policy, context, weights):
    """Set the weights of a policy in a context."""
    check_policy(policy)
    check_context(study, context)
    check_weights(study, weights)
    changed = study.policies[policy]
    changed.weights[context] = weights
    return [sum(weights)]


def copy_policy(study, source, target):
    """Make one policy a copy of another."""
    check_policy(source)
    check_policy(target)
    rows = study.policies[source].weights
    study.policies[target] = Policy([list(row) for row in rows])
    return [0]


def set_model(study, context, estimates):
    """Set the estimated rewards in a context."""
    check_context(study, context)
    check_rewards(study, estimates)
    study.model[context] = [whole(estimate) for estimate in estimates]
    return [0]


def fit_model(study):
    """Make the model the fitted one."""
    for context in range(study.contexts):
        row = [fitted_estimate(study.events, context, action) for action in range(study.actions)]
        study.model[context] = row
    return [len(study.events)]


def set_truth(study, context, weight, rewards):
    """Set the weight of a context and its assumed rewards."""
    check_context(study, context)
    check_range(weight, 1, MOST_WEIGHT)
    check_rewards(study, rewards)
    study.truth_weights[context] = weight
    study.truth_rewards[context] = rewards
    return [0]


CHANGES = {
    1: add_event,
    2: remove_last,
    3: log_event,
    4: set_policy,
    5: copy_policy,
    6: set_model,
    7: fit_model,
    8: set_truth,
}
