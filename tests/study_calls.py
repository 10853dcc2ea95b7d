"""The calls as lists of numbers, by their names, and the answers to them, one list for each call."""

from logworth.study import answers

NO_STUDY = [-11]
MISSING = [-2]
OUT_OF_LIMITS = [-22]
LOG_FULL = [-28]
NOT_ENOUGH = [-33]

# The greatest number that is ever handed in.
LARGEST = 4294967295


def create(contexts, actions):
    return [0, contexts, actions]


def add_event(context, action, reward, num, den):
    return [1, context, action, reward, num, den]


def remove_last():
    return [2]


def log_event(policy, context, action, reward):
    return [3, policy, context, action, reward]


def set_policy(policy, context, weights):
    return [4, policy, context, len(weights)] + weights


def copy_policy(source, target):
    return [5, source, target]


def set_model(context, estimates):
    return [6, context, len(estimates)] + estimates


def fit_model():
    return [7]


def set_truth(context, weight, rewards):
    return [8, context, weight, len(rewards)] + rewards


def propensity(policy, context, action):
    return [9, policy, context, action]


def estimate(policy, kind, limit):
    return [10, policy, kind, limit]


def normalized(policy):
    return [11, policy]


def replay(policy):
    return [12, policy]


def effective_size(policy):
    return [13, policy]


def variance(policy, kind, limit):
    return [14, policy, kind, limit]


def interval(policy, kind, limit, factor):
    return [15, policy, kind, limit, factor]


def compare(first, second, kind, limit):
    return [16, first, second, kind, limit]


def by_context(policy, kind, limit):
    return [17, policy, kind, limit]


def greatest_weight(policy):
    return [18, policy]


def model_info(context):
    return [19, context]


def true_value(policy):
    return [20, policy]


def expectation(logging, policy, kind, limit):
    return [21, logging, policy, kind, limit]


def unsupported(logging, policy):
    return [22, logging, policy]


def bootstrap(policy, kind, limit, rounds, seed):
    return [23, policy, kind, limit, rounds, seed]


def precision(count, relevance):
    return [24, count, len(relevance)] + relevance


def rank_measures(relevance):
    return [25, len(relevance)] + relevance


def gains(numbers):
    return [26, len(numbers)] + numbers


def order_measure(ranks):
    return [27, len(ranks)] + ranks


def status():
    return [28]


def flat(calls):
    """The calls one behind another, as they are handed in."""
    return [number for call in calls for number in call]


def split(answered):
    """The answers, one list for each call."""
    result = []
    place = 0
    while place < len(answered):
        end = place + 1 + answered[place]
        result.append(answered[place + 1:end])
        place = end
    return result


def ask(calls):
    """What the calls of one request answer, one list for each call."""
    if not 1 <= len(calls) <= 60:
        raise ValueError("a request has 1 to 60 calls")
    return split(answers(flat(calls)))


def last(calls):
    """What the last call of a request answers."""
    return ask(calls)[-1]
