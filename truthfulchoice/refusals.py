"""The codes that are answered in place of a result."""

NO_INSTANCE = -11
NOT_READY = -16
NO_AGENT = -2
INVALID = -22
KNOWN_PREFERENCE = -17
LIMIT_REACHED = -28
NO_MANIPULATION = -33
