"""The greatest sizes that are not refused."""

MOST_BEDS = 30
MOST_LAID = 20
MOST_NEED = 200
MOST_AMOUNT = 1000000
MOST_SEASONS = 12
# This is 10 ** 18, written out because the top of a file holds plain values alone.
MOST_TIMES = 1000000000000000000
MOST_DEEDS = 300
