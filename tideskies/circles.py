"""The cosine and the sine of angles, in whole numbers.

An angle is a whole number from 0 on, below CIRCLE, which is a turn.
"""

CIRCLE = 4294967296
QUARTER = 1073741824

# A ray's length: of what size a cosine and a sine of 1 are.
RAY = 1073741824

BITS = 192
RAY_BITS = 30
HALF_PI = 9860048348863269281198066682114134445731725432595044866280
LAST_TERM = 63


# C(a)
def cosine(angle):
    fine = cosine_of_turn(angle)
    # Rounded without its sign, so that a cosine and its opposite stay opposite.
    size = (abs(fine) + (1 << (BITS - RAY_BITS - 1))) >> (BITS - RAY_BITS)
    return -size if fine < 0 else size


# S(a)
def sine(angle):
    return cosine((angle - QUARTER) % CIRCLE)


# In 192 bits, as all below.
def cosine_of_turn(angle):
    quarters = 4 * angle // CIRCLE
    rest = 4 * angle % CIRCLE
    if quarters == 0:
        return cosine_of_quarter(rest)
    if quarters == 1:
        return -cosine_of_quarter(CIRCLE - rest)
    if quarters == 2:
        return -cosine_of_quarter(rest)
    return cosine_of_quarter(CIRCLE - rest)


# rest: how many of a quarter's CIRCLE parts. Beyond its half the other arc is the shorter one.
def cosine_of_quarter(rest):
    if 2 * rest <= CIRCLE:
        return series(HALF_PI * rest // CIRCLE, 0)
    return series(HALF_PI * (CIRCLE - rest) // CIRCLE, 1)


# The arc's cosine if the first term is 0, its sine if that is 1.
def series(arc, first):
    terms = series_terms(arc)
    return sum(terms[first::4]) - sum(terms[first + 2::4])


# Ends at a term of 0, as only such come behind it.
def series_terms(arc):
    term = 1 << BITS
    terms = [term]
    while term > 0 and len(terms) <= LAST_TERM:
        term = ((term * arc) >> BITS) // len(terms)
        terms.append(term)
    return terms
