"""The measures that coding and decoding share."""

ORDER = 8
QUARTER = 40
SHORTEST_LAG = 40
LONGEST_LAG = 120
