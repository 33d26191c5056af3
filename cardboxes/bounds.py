"""The limits of boxes and decks."""

MAX_SWITCHES = 6
MAX_EDITS = 60
BATCH = 20
