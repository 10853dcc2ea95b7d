"""Studies that several tests ask about, as the calls that make them."""

from study_calls import add_event, create, set_model, set_policy, set_truth

# Policy 1 has the weights 1, so its importances are 1, 1, 2 and 2/3; those of policy 0 are 2, 0, 1 and 1.
LOG = [
    create(2, 2),
    add_event(0, 0, 10, 1, 2),
    add_event(0, 1, 4, 1, 2),
    add_event(1, 0, 6, 1, 4),
    add_event(1, 1, 8, 3, 4),
    set_policy(0, 0, [1, 0]),
    set_policy(0, 1, [1, 3]),
]
# The direct values of policy 1 are 30 in context 0 and 50 in context 1; those of policy 0 are 20 and 75.
MODELLED = LOG + [set_model(0, [20, 40]), set_model(1, [0, 100])]
# Context 0 occurs with 1/4, context 1 with 3/4.
ASSUMED = MODELLED + [set_truth(0, 1, [10, 2]), set_truth(1, 3, [4, 8])]
# Policy 0 never chooses the one action of the log.
NEVER = [create(1, 2), add_event(0, 1, 50, 1, 2), add_event(0, 1, 60, 1, 3), set_policy(0, 0, [1, 0])]

# Events whose propensities share no factor: what is worked out from them goes far beyond 64 bits.
PRIMES = [907, 911, 919, 929, 937, 941, 947, 953, 967, 971, 977, 983, 991, 997]
PRIME_LOG = [create(1, 1)] + [add_event(0, 0, 100, prime, 1000) for prime in PRIMES]
