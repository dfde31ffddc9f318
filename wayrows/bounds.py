"""The bounds of the program."""

MAX_LEAVES = 8
MAX_INNER = 20
MAX_WEBS = 12
MAX_FILLED = 9
MAX_CHOICES = 300
MAX_DEEDS = 30
