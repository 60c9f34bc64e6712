"""The limits that the other files of the package share."""

LIMIT = 10 ** 9
MAX_PLACES = 12
MAX_RULES = 16
MAX_REASON = 24
MAX_COUNT = 10 ** 25
LISTED = 500
MAX_EDITS = 60
BATCH = 20
LOGGED = 8
