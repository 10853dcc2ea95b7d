"""The calls that ask what holds under the assumed truth."""

from logworth.estimators import terms_of
from logworth.limits import check_estimator, check_policy
from logworth.ratio import Ratio, total, whole
from logworth.state import Event


def possible_events(study, policy):
    """Give back each event that the policy can log, with the assumed reward."""
    events = []
    for context in range(study.contexts):
        for action in range(study.actions):
            if policy.can_choose(context, action):
                reward = study.truth_rewards[context][action]
                events.append(Event(context, action, reward, policy.chance(context, action)))
    return events


def event_chance(study, event):
    """Give back how probable it is that the event is logged, if its propensity is that of its action."""
    weight = Ratio(study.truth_weights[event.context], sum(study.truth_weights))
    return weight.times(event.propensity)


def expected(study, events, values):
    """Give back the expectation of a value that is given for each possible event."""
    return total([event_chance(study, event).times(value) for event, value in zip(events, values)])


def true_value(study, policy):
    """Answer the true value of the policy."""
    check_policy(policy)
    events = possible_events(study, study.policies[policy])
    rewards = [whole(event.reward) for event in events]
    return [0] + expected(study, events, rewards).pair()


def expectation(study, logger, policy, kind, limit):
    """Answer the expectation and the variance of a term, if the logger is the logging policy."""
    check_policy(logger)
    check_policy(policy)
    check_estimator(kind, limit)
    events = possible_events(study, study.policies[logger])
    terms = terms_of(study, study.policies[policy], kind, limit, events)
    middle = expected(study, events, terms)
    squares = [term.minus(middle).squared() for term in terms]
    return [0] + middle.pair() + expected(study, events, squares).pair()


def unsupported(study, logger, policy):
    """Answer the decisions that the policy can make, but the logging policy can't."""
    check_policy(logger)
    check_policy(policy)
    source = study.policies[logger]
    pairs = []
    for context in range(study.contexts):
        for action in range(study.actions):
            if study.policies[policy].can_choose(context, action) and not source.can_choose(context, action):
                pairs.extend([context, action])
    return [len(pairs) // 2] + pairs


TRUTHS = {
    20: true_value,
    21: expectation,
    22: unsupported,
}
