"""The numbers that refused calls answer."""

NO_SUCH_CAGE = -2
NOTHING_FETCHED = -6
NOT_AS_TOLD = -22
NO_MORE_FIT = -28
NOT_ONE_ZONE = -33
NEVER = -33
NOT_BEGUN = -61
