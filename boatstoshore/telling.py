"""How yes and no, and several boats, are told: in whole numbers, never True or False."""


def one_if(holds):
    return 1 if holds else 0


def as_bits(boats):
    """Boats, by their numbers, as one number: the sum of 2 to the boat."""
    return sum([1 << b for b in boats])
