"""The modes, the bounds, and the keys that mean something in more than one mode."""

NORMAL = 0
INSERT = 1
PROMPT = 2
BYTE_OF_R = 3

MOST_BYTES = 200
MOST_KEYS = 60
GREATEST_BYTE = 255
MOST_SELECTIONS = 30
GREATEST_COUNT = 99
MOST_KEYS_FOR_ONE = 500

LINE_FEED = 10
ESCAPE = 27
RUBOUT = 127
