"""Halves of days off, taken off grants that lapse."""

LAST_HALF = 799
HIGHEST_ASKED = 800
MOST_GRANTS = 10
MOST_GRANTED = 100
MOST_TAKEN = 60


def covered(l, t):
    """Answer [1, 0] if all of t is covered, else [0, the first half that is not], or [-22]."""
    if not are_as_told(l, t):
        return [-22]
    places = places_used(threes(l), t)
    if len(places) < len(t):
        return [0, t[len(places)]]
    return [1, 0]


def left(l, t):
    """Answer how many grants there are and then what is left of each, or [-22], or [-33] if not all is covered."""
    if not are_as_told(l, t):
        return [-22]
    rest = rest_behind(threes(l), t)
    if rest is None:
        return [-33]
    return [len(rest)] + rest


def lapsed(h, l, t):
    """Answer what has lapsed before the half h, or [-22], or [-33] if not all of t is covered."""
    if h > HIGHEST_ASKED or not are_as_told(l, t):
        return [-22]
    grants = threes(l)
    rest = rest_behind(grants, t)
    if rest is None:
        return [-33]
    return [sum([rest[place] for place in range(len(grants)) if grants[place][1] < h])]


def more(l, t, c):
    """Answer how many of c's first halves could be taken too, or [-22], or [-33] if not all of t is covered."""
    if not are_as_told(l, t) or not halves_are_as_told(c) or has_one_of(c, t):
        return [-22]
    grants = threes(l)
    if not all_is_covered(grants, t):
        return [-33]
    return [most_of_first(grants, t, c)]


def are_as_told(l, t):
    """Tell whether l and t are grants and taken halves that may be handed in."""
    return grants_are_as_told(l) and halves_are_as_told(t)


def grants_are_as_told(l):
    """Tell whether l is a list of grants that may be handed in."""
    if len(l) % 3 != 0 or len(l) > 3 * MOST_GRANTS:
        return False
    for first, last, many in threes(l):
        # A first half above LAST_HALF needs no look of its own: it is above the last or the last is too high.
        if first > last or last > LAST_HALF or many > MOST_GRANTED:
            return False
    return True


def halves_are_as_told(t):
    """Tell whether t is a list of taken halves that may be handed in."""
    if len(t) > MOST_TAKEN:
        return False
    for place in range(len(t)):
        if t[place] > LAST_HALF:
            return False
        if place > 0 and t[place] <= t[place - 1]:
            return False
    return True


def has_one_of(c, t):
    """Tell whether a half of c is in t, too."""
    for half in c:
        if half in t:
            return True
    return False


def threes(l):
    """Answer the grants of l, each as (its first half, its last, how many)."""
    return [(l[k], l[k + 1], l[k + 2]) for k in range(0, len(l), 3)]


def places_used(grants, t):
    """Answer, for each half of t ahead of the first that is not covered, the place of the grant it is taken off."""
    rest = [many for first, last, many in grants]
    places = []
    for half in t:
        place = place_to_use(grants, rest, half)
        if place is None:
            break
        rest[place] = rest[place] - 1
        places.append(place)
    return places


def all_is_covered(grants, halves):
    """Tell whether each of halves is covered."""
    return len(places_used(grants, halves)) == len(halves)


def most_of_first(grants, t, c):
    """Answer how many of c's first halves, at most, could be taken along with t and all be covered."""
    count = 0
    # If fewer are taken, they are covered as well: so none behind the first that does not fit needs a look.
    while count < len(c) and all_is_covered(grants, sorted(t + c[:count + 1])):
        count = count + 1
    return count


def rest_behind(grants, t):
    """Answer what is left of each grant behind all of t, or None if not all of t is covered."""
    places = places_used(grants, t)
    if len(places) < len(t):
        return None
    return [grants[place][2] - places.count(place) for place in range(len(grants))]


def place_to_use(grants, rest, half):
    """Answer the place of the grant that half is taken off, or None if there is none."""
    found = None
    for place in range(len(grants)):
        if rest[place] == 0 or not may_be_taken(grants[place], half):
            continue
        # Only an earlier end wins, so of grants that end alike the one told first stays.
        if found is None or grants[place][1] < grants[found][1]:
            found = place
    return found


def may_be_taken(grant, half):
    """Tell whether grant may be taken at half, whatever is left of it."""
    return grant[0] <= half and half <= grant[1]
