"""How far heights, stations, grades and prices go."""

FEWEST_STATIONS = 2
MOST_STATIONS = 12
HIGHEST = 40
STEEPEST = 10
LEAST_PRICE = 1
DEAREST = 10


def is_height(x):
    return 0 <= x <= HIGHEST


def are_heights(row):
    return all([is_height(x) for x in row])


def is_price(x):
    return LEAST_PRICE <= x <= DEAREST
