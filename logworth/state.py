"""What a study holds."""

from logworth.ratio import Ratio, whole

POLICIES = 3


class Event:
    """A decision of the past, with the probability that it had."""

    def __init__(self, context, action, reward, propensity):
        self.context = context
        self.action = action
        self.reward = reward
        self.propensity = propensity


class Policy:
    """For each context the weights of the actions."""

    def __init__(self, weights):
        self.weights = weights

    def chance(self, context, action):
        """Give back the probability with which the policy chooses the action."""
        row = self.weights[context]
        return Ratio(row[action], sum(row))

    def can_choose(self, context, action):
        """Give back whether that probability is other than 0."""
        return self.weights[context][action] > 0

    def preferred(self, context):
        """Give back the first action with the greatest weight."""
        row = self.weights[context]
        return row.index(max(row))


class Study:
    """The events, the policies, the model and the truth over some contexts and actions."""

    def __init__(self, contexts, actions):
        self.contexts = contexts
        self.actions = actions
        self.events = []
        self.policies = [Policy(grid(contexts, actions, 1)) for number in range(POLICIES)]
        self.model = grid(contexts, actions, whole(0))
        self.truth_weights = [1] * contexts
        self.truth_rewards = grid(contexts, actions, 0)


def grid(contexts, actions, value):
    """Give back a row for each context that has the value for each action."""
    return [[value] * actions for context in range(contexts)]
