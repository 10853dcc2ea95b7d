"""Resampling from a seed."""

MULTIPLIER = 1103515245
INCREMENT = 12345
MODULUS = 2147483648
# The lower digits of a seed repeat early, so the place is taken from those above them.
CUT = 65536


def following_seed(seed):
    """Give back the seed of the next draw."""
    return (MULTIPLIER * seed + INCREMENT) % MODULUS


def resampled_sums(numbers, rounds, seed):
    """Give back for each round the sum of as many drawn numbers as there are; each round goes on with the last seed."""
    sums = []
    for turn in range(rounds):
        drawn = 0
        for draw in range(len(numbers)):
            seed = following_seed(seed)
            drawn += numbers[seed // CUT % len(numbers)]
        sums.append(drawn)
    return sums
