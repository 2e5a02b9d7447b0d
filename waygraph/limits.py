"""How many there may be of each thing."""

MOST_NODES = 12
MOST_EDGES = 40
MOST_CODE = 60
HIGHEST_LABEL = 5
HIGHEST_KIND = 8
