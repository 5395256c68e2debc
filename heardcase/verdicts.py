"""What a claim can be, and what it can be settled by, as the calls tell it."""

PROVED = 1
REFUTED = 2
OPEN = 3

BY_SIGHT = 1
BY_RULES = 2
BY_WITNESSES = 3


def fact(verdict, number):
    """The bit, among those of all claims, that stands for this verdict on the claim of this number."""
    # Verdicts go up to 3, so four bits for each claim keep them apart.
    return 1 << (4 * number + verdict)
