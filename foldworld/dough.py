"""Dough: the endless rows of letters of raisins, their fractions, and the rounds that they go."""

from math import gcd

from foldworld.errors import NotARound, TooMany
from foldworld.limits import MOST_LETTERS, MOST_SHOWN
from foldworld.shapes import need_course, need_fraction, need_loop, need_number

_MOST_INDEX = 10 ** 50
_MOST_COUNTED = 200
_MOST_AHEAD = 10 ** 6


def is_less(course, other_course):
    """Whether the endless row of the first course is less than that of the other one."""
    need_course(course)
    need_course(other_course)
    many = count_alike(course, other_course)
    return many is not None and is_less_behind(course, many)


def shortened(course):
    """Tell the short course with the same endless row."""
    need_course(course)
    lead, loop = course
    return _shorten(lead, loop)


def letter_at(course, number):
    """Tell the letter with this index in the endless row of a course."""
    need_course(course)
    need_number(number, 0, _MOST_INDEX)
    lead, loop = course
    if number < len(lead):
        return lead[number]
    return loop[(number - len(lead)) % len(loop)]


def fraction_of(course):
    """Tell the fraction of a course."""
    need_course(course)
    lead, loop = course
    top, bottom = _place_of_loop(loop)
    for letter in lead[::-1]:
        top, bottom = (top, 2 * bottom) if letter == "l" else (2 * bottom - top, 2 * bottom)
    return _lowest(top, bottom)


def course_of(fraction):
    """Tell the short course of the letters of the raisin at a fraction."""
    need_fraction(fraction)
    top, bottom = fraction
    letters = ""
    seen = {}
    while top not in seen:
        if len(letters) == 2 * MOST_LETTERS:
            raise TooMany(MOST_LETTERS)
        seen[top] = len(letters)
        letters += _letter(top, bottom)
        top = _next_top(top, bottom)
    ahead = seen[top]
    if ahead > MOST_LETTERS or len(letters) - ahead > MOST_LETTERS:
        raise TooMany(MOST_LETTERS)
    return letters[:ahead], letters[ahead:]


def is_round(loop):
    """Whether a loop is a round, in any of its turns."""
    need_loop(loop)
    return _shortest_loop(loop) == loop


def greatest_turn(loop):
    """Tell the turn of a round whose endless row is greatest."""
    _need_round(loop)
    tops, _ = _places_in_turn(loop)
    start = tops.index(max(tops))
    return loop[start:] + loop[:start]


def count_rounds(number):
    """Tell how many rounds of this length there are."""
    need_number(number, 1, _MOST_COUNTED)
    # Each string of letters is just one round, in one of its turns, said some times.
    strings = {}
    for length in range(1, number + 1):
        if number % length == 0:
            shorter = [strings[part] for part in strings if length % part == 0]
            strings[length] = (1 << length) - sum(shorter)
    return strings[number] // number


def all_rounds(number):
    """Tell the tuple of the greatest turns of all rounds of this length, from the least on."""
    need_number(number, 1, MOST_SHOWN)
    # What n letters lead back lies at 2 k / (2 ** n - 1) or at 2 k / (2 ** n + 1).
    less = (1 << number) - 1
    more = (1 << number) + 1
    found = {}
    for bottom, factor in ((less, more), (more, less)):
        for loop, top in _rounds_over(bottom):
            if len(loop) == number:
                found[top * factor] = loop
    return tuple([found[top] for top in sorted(found)])


def order_of_round(loop):
    """Tell the tuple of the places to which the raisins of a round go, from the least one on."""
    _need_round(loop)
    tops, _ = _places_in_turn(loop)
    places = {top: place for place, top in enumerate(sorted(tops))}
    order = [0] * len(tops)
    for index, top in enumerate(tops):
        # The place ahead of the first one is the last one, from which the raisin comes back.
        order[places[tops[index - 1]]] = places[top]
    return tuple(order)


def places_of(loop):
    """Tell the ascending tuple of the fractions of the raisins of a round."""
    _need_round(loop)
    tops, bottom = _places_in_turn(loop)
    return tuple([_lowest(top, bottom) for top in sorted(tops)])


def forces(loop, other_loop):
    """Whether the first round forces the other one."""
    _need_round(loop)
    _need_round(other_loop)
    tops, bottom = _places_in_turn(loop)
    other_tops, other_bottom = _places_in_turn(other_loop)
    # Without leads, unlike rows are those of unlike fractions.
    return max(tops) * other_bottom >= max(other_tops) * bottom


def doubled(loop):
    """Tell a round doubled."""
    _need_round(loop)
    if loop == "l":
        raise NotARound(loop)
    if 2 * len(loop) > MOST_LETTERS:
        raise TooMany(MOST_LETTERS)
    return "".join(["rr" if letter == "l" else "rl" for letter in loop])


def is_ahead(number, other_number):
    """Whether the first number stands ahead of the other one in Sharkovsky's row."""
    need_number(number, 1, _MOST_AHEAD)
    need_number(other_number, 1, _MOST_AHEAD)
    return _place_in_row(number) < _place_in_row(other_number)


def fractions_along(course):
    """Tell the tuple of the fractions ahead of each letter of a course, and behind the last one."""
    lead, loop = course
    found = [fraction_of(course)]
    for letter in lead + loop:
        top, bottom = found[-1]
        found.append(_lowest(2 * top if letter == "l" else 2 * bottom - 2 * top, bottom))
    return tuple(found)


def count_alike(course, other_course):
    """Tell how many letters of two endless rows are alike, None if the rows are the same."""
    row = _beginning(course)
    other_row = _beginning(other_course)
    if row == other_row:
        return None
    many = 0
    while row[many] == other_row[many]:
        many += 1
    return many


def is_less_behind(course, many):
    """Whether a row is less than one that is unlike it behind so many letters, below 120."""
    row = _beginning(course)
    return (row[many] == "l") == (row[:many].count("r") % 2 == 0)


def _beginning(course):
    """Tell as many letters of a course as tell its endless row from all others."""
    # Rows that are alike for the longer lead and both loops are alike for good.
    lead, loop = course
    return (lead + loop * (3 * MOST_LETTERS))[:3 * MOST_LETTERS]


def _place_of_loop(loop):
    """Tell the top and the bottom of the fraction of a loop, not in lowest terms."""
    # The letters of the loop lead from x to slope x + shift, which is x again.
    slope, shift = 1, 0
    for letter in loop:
        slope, shift = (2 * slope, 2 * shift) if letter == "l" else (-2 * slope, 2 - 2 * shift)
    return (shift, 1 - slope) if slope < 0 else (-shift, slope - 1)


def _places_in_turn(loop):
    """Tell the list of the tops of the fractions of a loop's turns, as they follow, and the bottom."""
    top, bottom = _place_of_loop(loop)
    tops = []
    for letter in loop:
        tops.append(top)
        top = 2 * top if letter == "l" else 2 * bottom - 2 * top
    return tops, bottom


def _lowest(top, bottom):
    """Tell a fraction in lowest terms."""
    common = gcd(top, bottom)
    return top // common, bottom // common


def _rounds_over(bottom):
    """Tell the list of the rounds of raisins over an odd bottom, each with its greatest top."""
    found = []
    is_met = [False] * bottom
    for top in range(bottom - 1, -1, -2):
        letters = ""
        here = top
        while not is_met[here]:
            is_met[here] = True
            letters += _letter(here, bottom)
            here = _next_top(here, bottom)
        found.append((letters, top))
    return found


def _shorten(lead, loop):
    """Tell the short course of a lead and a loop."""
    short = _shortest_loop(loop)
    while lead != "" and lead[-1] == short[-1]:
        lead = lead[:-1]
        short = short[-1] + short[:-1]
    return lead, short


def _shortest_loop(loop):
    """Tell the shortest string of which a loop is made, said several times."""
    # Where the loop stands in itself said twice, it is turned into itself.
    return loop[:(loop + loop).find(loop, 1)]


def _letter(top, bottom):
    """Tell the letter of a raisin."""
    return "l" if 2 * top <= bottom else "r"


def _next_top(top, bottom):
    """Tell the top of the fraction to which a raisin goes, the bottom being the same."""
    return 2 * top if 2 * top <= bottom else 2 * bottom - 2 * top


def _need_round(value):
    """Raise InvalidLoop unless a value is a loop, NotARound unless it is a round."""
    if not is_round(value):
        raise NotARound(value)


def _place_in_row(number):
    """Tell a pair that orders numbers as Sharkovsky's row does."""
    odd = number
    twos = 0
    while odd % 2 == 0:
        odd = odd // 2
        twos += 1
    # The powers of 2 stand last, the greatest one first.
    return (_MOST_AHEAD, -twos) if odd == 1 else (twos, odd)
