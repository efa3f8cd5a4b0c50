"""The bounds that the program keeps to."""

KINDS_MOST = 4
NEW_MOST = 3
OLDEST = 8
HOUSES_MOST = 20
JOINED_MOST = 60
WEEKS_MOST = 150
# Losses keep to the same bound as prices.
PRICE_MOST = 1000000
DEEDS_MOST = 400
NAME_MOST = 12
FIGURES_MOST = 9
