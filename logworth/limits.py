"""The checks of arguments: each gives back nothing, or refuses the call."""

from logworth.refusals import LogFull, Missing, NotEnough, OutOfLimits
from logworth.state import POLICIES

MOST_CONTEXTS = 6
MOST_ACTIONS = 5
MOST_EVENTS = 40
MOST_REWARD = 100
MOST_DEN = 1000
MOST_WEIGHT = 1000
MOST_KIND = 3
MOST_LIMIT = 100000
MOST_FACTOR = 10000
MOST_ROUNDS = 50
MOST_RANKS = 12
MOST_GAIN = 100
MOST_RANK_NUMBER = 1000


def check_place(number, count):
    """Refuse a number that names none of so many things, which are numbered from 0."""
    if not 0 <= number < count:
        raise Missing()


def check_policy(policy):
    """Refuse a policy that doesn't exist."""
    check_place(policy, POLICIES)


def check_context(study, context):
    """Refuse a context that doesn't exist."""
    check_place(context, study.contexts)


def check_decision(study, context, action):
    """Refuse a context or an action that doesn't exist."""
    check_context(study, context)
    check_place(action, study.actions)


def check_range(number, least, greatest):
    """Refuse a number that isn't between both."""
    if not least <= number <= greatest:
        raise OutOfLimits()


def check_numbers(row, greatest):
    """Refuse a row with a number that isn't from 0 to the greatest."""
    for number in row:
        check_range(number, 0, greatest)


def check_row(study, row, greatest):
    """Refuse a row that hasn't a number from 0 to the greatest for each action."""
    check_range(len(row), study.actions, study.actions)
    check_numbers(row, greatest)


def check_weights(study, weights):
    """Refuse weights that aren't those of a policy in a context."""
    check_row(study, weights, MOST_WEIGHT)
    if max(weights) == 0:
        raise OutOfLimits()


def check_rewards(study, rewards):
    """Refuse a row that hasn't a reward for each action."""
    check_row(study, rewards, MOST_REWARD)


def check_relevance(relevance):
    """Refuse a ranked list that isn't one of relevances."""
    check_range(len(relevance), 1, MOST_RANKS)
    check_numbers(relevance, 1)


def check_gains(gains):
    """Refuse a ranked list that isn't one of gains."""
    check_range(len(gains), 1, MOST_RANKS)
    check_numbers(gains, MOST_GAIN)


def check_ranks(ranks):
    """Refuse a ranked list without a pair of positions, or with a number outside its limits."""
    check_range(len(ranks), 2, MOST_RANKS)
    check_numbers(ranks, MOST_RANK_NUMBER)


def check_reward(reward):
    """Refuse a reward outside its limits."""
    check_range(reward, 0, MOST_REWARD)


def check_estimator(kind, limit):
    """Refuse a kind or a limit outside its limits, the limit also where the kind has no use for it."""
    check_range(kind, 0, MOST_KIND)
    check_range(limit, 1, MOST_LIMIT)


def check_room(study):
    """Refuse another event if the log is full."""
    if len(study.events) >= MOST_EVENTS:
        raise LogFull()


def check_events(events, least):
    """Refuse fewer events than the least number of them."""
    if len(events) < least:
        raise NotEnough()


def check_positive(ratio):
    """Refuse a probability or a divisor that is 0."""
    if ratio.top == 0:
        raise NotEnough()
