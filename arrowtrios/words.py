"""Words of turns: what falls out of them, and what is left when they are repeated."""

LETTERS = "abc"
PLACE_OF = {"a": 0, "b": 1, "c": 2}


def places_of(word):
    """Return the list of the places that a word names."""
    return [PLACE_OF[letter] for letter in word]


def word_of(places):
    """Return the word that names these places."""
    return "".join([LETTERS[place] for place in places])


def without_doubles(places):
    """Return the places that are left when two turns at one place, one right behind the other, fall out."""
    kept = []
    for place in places:
        if kept and kept[-1] == place:
            kept.pop()
        else:
            kept.append(place)
    return kept


def way_and_core(places):
    """Split a word without doubles into a way, a core, and the same way backwards; return the first two.

    When the word is repeated, each way back cancels the next way, so that only the core is repeated.
    """
    cut = 0
    while len(places) - 2 * cut > 1 and places[cut] == places[-1 - cut]:
        cut += 1
    return places[:cut], places[cut:len(places) - cut]


def root_of(places):
    """Return the shortest word that gives this one, which is not empty, when it is repeated."""
    for size in range(1, len(places)):
        if len(places) % size == 0 and places[:size] * (len(places) // size) == places:
            return places[:size]
    return places
