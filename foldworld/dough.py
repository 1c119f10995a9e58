"""Dough: the endless rows of letters of raisins, their fractions, and the rounds that they go."""

from math import gcd

from foldworld.errors import NotARound, TooMany
from foldworld.limits import MOST_LETTERS, MOST_SHOWN
from foldworld.shapes import need_course, need_fraction, need_loop, need_number

_MOST_INDEX = 10 ** 50
_MOST_COUNTED = 200
_MOST_AHEAD = 10 ** 6


def is_less(course, other_course):
    """Whether the endless row of the first course is less than that of the other one."""
    need_course(course)
    need_course(other_course)
    return _rank(course) < _rank(other_course)


def shortened(course):
    """Tell the short course with the same endless row."""
    need_course(course)
    lead, loop = course
    return _shorten(lead, loop)


def letter_at(course, number):
    """Tell the letter with this index in the endless row of a course."""
    need_course(course)
    need_number(number, 0, _MOST_INDEX)
    lead, loop = course
    if number < len(lead):
        return lead[number]
    return loop[(number - len(lead)) % len(loop)]


def fraction_of(course):
    """Tell the fraction of a course."""
    need_course(course)
    lead, loop = course
    # The letters of the loop lead from x to slope x + shift, which is x again.
    slope, shift = 1, 0
    for letter in loop:
        slope, shift = (2 * slope, 2 * shift) if letter == "l" else (-2 * slope, 2 - 2 * shift)
    top, bottom = shift, 1 - slope
    for letter in lead[::-1]:
        top, bottom = (top, 2 * bottom) if letter == "l" else (2 * bottom - top, 2 * bottom)
    # gcd is above 0, so that its sign, too, is to be taken from the bottom.
    common = gcd(top, bottom) if bottom > 0 else -gcd(top, bottom)
    return top // common, bottom // common


def course_of(fraction):
    """Tell the short course of the letters of the raisin at a fraction."""
    need_fraction(fraction)
    top, bottom = fraction
    letters = ""
    seen = {}
    while top not in seen:
        if len(letters) == 2 * MOST_LETTERS:
            raise TooMany(MOST_LETTERS)
        seen[top] = len(letters)
        letters += _letter(top, bottom)
        top = _next_top(top, bottom)
    ahead = seen[top]
    if ahead > MOST_LETTERS or len(letters) - ahead > MOST_LETTERS:
        raise TooMany(MOST_LETTERS)
    return letters[:ahead], letters[ahead:]


def is_round(loop):
    """Whether a loop is a round, in any of its turns."""
    need_loop(loop)
    return _shortest_loop(loop) == loop


def greatest_turn(loop):
    """Tell the turn of a round whose endless row is greatest."""
    _need_round(loop)
    return _greatest(loop)


def count_rounds(number):
    """Tell how many rounds of this length there are."""
    need_number(number, 1, _MOST_COUNTED)
    # Each string of letters is just one round, in one of its turns, said some times.
    strings = {}
    for length in range(1, number + 1):
        if number % length == 0:
            shorter = [strings[part] for part in strings if length % part == 0]
            strings[length] = (1 << length) - sum(shorter)
    return strings[number] // number


def all_rounds(number):
    """Tell the tuple of the greatest turns of all rounds of this length, from the least on."""
    need_number(number, 1, MOST_SHOWN)
    loops = [""]
    for _ in range(number):
        loops = [loop + letter for loop in loops for letter in "lr"]
    found = [loop for loop in loops if _shortest_loop(loop) == loop and _greatest(loop) == loop]
    return tuple(sorted(found, key=_loop_rank))


def order_of_round(loop):
    """Tell the tuple of the places to which the raisins of a round go, from the least one on."""
    _need_round(loop)
    ordered = _ordered_turns(loop)
    return tuple([ordered.index(turn[1:] + turn[:1]) for turn in ordered])


def places_of(loop):
    """Tell the ascending tuple of the fractions of the raisins of a round."""
    _need_round(loop)
    return tuple([fraction_of(("", turn)) for turn in _ordered_turns(loop)])


def forces(loop, other_loop):
    """Whether the first round forces the other one."""
    _need_round(loop)
    _need_round(other_loop)
    return _loop_rank(_greatest(loop)) >= _loop_rank(_greatest(other_loop))


def doubled(loop):
    """Tell a round doubled."""
    _need_round(loop)
    if loop == "l":
        raise NotARound(loop)
    if 2 * len(loop) > MOST_LETTERS:
        raise TooMany(MOST_LETTERS)
    return "".join(["rr" if letter == "l" else "rl" for letter in loop])


def is_ahead(number, other_number):
    """Whether the first number stands ahead of the other one in Sharkovsky's row."""
    need_number(number, 1, _MOST_AHEAD)
    need_number(other_number, 1, _MOST_AHEAD)
    return _place_in_row(number) < _place_in_row(other_number)


def _rank(course):
    """Tell signs for a course that order the endless rows as strings are ordered."""
    lead, loop = course
    # Rows that are alike for the longer lead and both loops are alike for good. Behind an odd number
    # of `r` the order of the letters is turned; how odd the number is with each letter turns it back.
    signs = []
    is_odd = False
    for letter in (lead + loop * (3 * MOST_LETTERS))[:3 * MOST_LETTERS]:
        is_odd = is_odd != (letter == "r")
        signs.append("1" if is_odd else "0")
    return "".join(signs)


def _loop_rank(loop):
    """Tell the signs that order a loop without a lead."""
    return _rank(("", loop))


def _shorten(lead, loop):
    """Tell the short course of a lead and a loop."""
    short = _shortest_loop(loop)
    while lead != "" and lead[-1] == short[-1]:
        lead = lead[:-1]
        short = short[-1] + short[:-1]
    return lead, short


def _shortest_loop(loop):
    """Tell the shortest string of which a loop is made, said several times."""
    for length in range(1, len(loop)):
        if len(loop) % length == 0 and loop[:length] * (len(loop) // length) == loop:
            return loop[:length]
    return loop


def _letter(top, bottom):
    """Tell the letter of a raisin."""
    return "l" if 2 * top <= bottom else "r"


def _next_top(top, bottom):
    """Tell the top of the fraction to which a raisin goes, the bottom being the same."""
    return 2 * top if 2 * top <= bottom else 2 * bottom - 2 * top


def _need_round(value):
    """Raise InvalidLoop unless a value is a loop, NotARound unless it is a round."""
    if not is_round(value):
        raise NotARound(value)


def _turns(loop):
    """Tell the list of the turns of a loop."""
    return [loop[start:] + loop[:start] for start in range(len(loop))]


def _ordered_turns(loop):
    """Tell the list of the turns of a loop, from the least endless row to the greatest."""
    return sorted(_turns(loop), key=_loop_rank)


def _greatest(loop):
    """Tell the turn of a loop whose endless row is greatest."""
    return max(_turns(loop), key=_loop_rank)


def _place_in_row(number):
    """Tell a pair that orders numbers as Sharkovsky's row does."""
    odd = number
    twos = 0
    while odd % 2 == 0:
        odd = odd // 2
        twos += 1
    # The powers of 2 stand last, the greatest one first.
    return (_MOST_AHEAD, -twos) if odd == 1 else (twos, odd)
