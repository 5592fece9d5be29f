"""The numbers that calls refuse with."""

OUT_OF_RANGE = -1
NOBODY = -2
HAS_IT_ALREADY = -3
NO_RULES = -4
NOT_WORKED_AT = -5
FULL = -6
ADDRESS_FULL = -7
IS_ENDING = -8
