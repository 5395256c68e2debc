"""What a claim can be, and what it can be settled by, as the calls tell it."""

PROVED = 1
REFUTED = 2
OPEN = 3

BY_SIGHT = 1
BY_RULES = 2
BY_WITNESSES = 3
