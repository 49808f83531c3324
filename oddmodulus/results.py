"""What a call answers first."""

DONE = 0
REFUSED = -1

# order answers these; as -1 is an order there, its refusal is another number.
BELOW = -1
LEVEL = 0
ABOVE = 1
NO_ORDER = -2
