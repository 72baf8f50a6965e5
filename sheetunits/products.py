"""Products of powers: a list of the exponents of all marks, then of all places."""

MARKS = 8
PLACES = 24
LARGEST = 1073741824


def nothing():
    """The product without exponents."""
    return [0] * (MARKS + PLACES)


def mark_alone(mark):
    product = nothing()
    product[mark] = 1
    return product


def place_alone(place):
    product = nothing()
    product[MARKS + place] = 1
    return product


def times(first, second):
    return [one + other for one, other in zip(first, second)]


def divided(first, second):
    return [one - other for one, other in zip(first, second)]


def raised(product, power):
    return [exponent * power for exponent in product]


def within(product, bound):
    """Whether no exponent is above bound, or as far below 0."""
    return max(product) <= bound and min(product) >= 0 - bound


def marks_of(product):
    return product[:MARKS]


def places_of(product):
    return product[MARKS:]


def product_in_numbers(product):
    """The marks' exponents, then the places', each with how many they are before them."""
    return [MARKS] + marks_of(product) + [PLACES] + places_of(product)


def moved(product, first):
    """The product with place 0 as the place first, place 1 as the one behind it, and so on."""
    return marks_of(product) + [0] * first + places_of(product)[:PLACES - first]


def filled_in(product, filling):
    """The product with what filling gives in the stead of each of its places."""
    result = marks_of(product) + [0] * PLACES
    for given, exponent in zip(filling, places_of(product)):
        if exponent != 0:
            result = times(result, raised(given, exponent))
    return result
