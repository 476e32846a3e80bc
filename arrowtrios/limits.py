"""The greatest sizes, numbers and lengths that the package lets pass."""

# The two great powers are products, since an exponent is at most 64 in this package (L27).
GREATEST = 10 ** 60 * 10 ** 60 * 10 ** 60 * 10 ** 60 * 10 ** 60
MOST_TIMES = 10 ** 62 * 10 ** 62 * 10 ** 62 * 10 ** 62 * 10 ** 62
MOST_PAIRS = 200
MOST_LETTERS = 12
MOST_REMAINDER = 12
MOST_LISTED = 2000
MOST_BOUND = 10 ** 6
MOST_PLACES = 5
MOST_WEB = 10 ** 30
MOST_WEBS = 300
MOST_TABLE = 10000
