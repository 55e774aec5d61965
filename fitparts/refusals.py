"""The numbers of refused calls."""

TOO_LONG = -1
FAULTY = -2
NO_ASSEMBLY = -3
NO_SUCH = -4
NONE_THERE = -5
NOT_AS_MANY = -6
NOT_GOOD = -7
NO_OFFERS = -8
NO_CHOICE = -9
