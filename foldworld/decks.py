"""Decks: where the cards come by shuffles, and when they come back."""

from foldworld.errors import TooMany
from foldworld.shapes import need_number, need_shuffle, need_size

_MOST_TIMES = 10 ** 30
_MOST_LISTED = 1000


def place_after(shuffle, size, number, times):
    """Tell the place of the card from a place after so many times."""
    need_shuffle(shuffle)
    need_size(size)
    need_number(number, 0, size - 1)
    need_number(times, 0, _MOST_TIMES)
    return _led(shuffle, size, number, _power_of_two(times, _modulus(shuffle, size)))


def order_of(shuffle, size):
    """Tell the least number of times, from 1 on, after which all cards are where they were."""
    need_shuffle(shuffle)
    need_size(size)
    modulus = _modulus(shuffle, size)
    # By `fold` the card at p and a card at -p would lie at one place.
    backs = (1 % modulus, modulus - 1) if shuffle == "fold" else (1 % modulus,)
    times = 1
    power = 2 % modulus
    while power not in backs:
        times += 1
        power = 2 * power % modulus
    return times


def deck_after(shuffle, size, times):
    """Tell the tuple of the cards from the top after so many times, by the places whence they came."""
    need_shuffle(shuffle)
    need_size(size)
    need_number(times, 0, _MOST_TIMES)
    _need_few(size)
    power = _power_of_two(times, _modulus(shuffle, size))
    deck = [0] * size
    for number in range(size):
        deck[_led(shuffle, size, number, power)] = number
    return tuple(deck)


def loops(shuffle, size):
    """Tell the tuple of the loops of places, each from its least place on, by their first places."""
    need_shuffle(shuffle)
    need_size(size)
    _need_few(size)
    found = []
    is_met = [False] * size
    for first in range(size):
        loop = []
        place = first
        while not is_met[place]:
            is_met[place] = True
            loop.append(place)
            place = _led(shuffle, size, place, 2)
        if loop:
            found.append(tuple(loop))
    return tuple(found)


def row_to(size, number):
    """Tell the first of the shortest strings of words by which the top card comes to a place."""
    need_size(size)
    need_number(number, 0, size - 1)
    # Behind k shuffles the top card lies at the number of which the words are the figures to the
    # base 2, `i` for 1 and `o` for 0, as long as this is a place. No fewer words lead as far, and no
    # others of as many: to lie at or behind the middle ahead of the last one, it takes as many more.
    signs = []
    left = number
    while left > 0:
        signs.append("i" if left % 2 == 1 else "o")
        left = left // 2
    return "".join(signs[::-1])


def _need_few(size):
    """Raise TooMany for a deck that is too great to be listed."""
    if size > _MOST_LISTED:
        raise TooMany(_MOST_LISTED)


def _modulus(shuffle, size):
    """Tell the number by which places, as the shuffle leads them on, are counted round."""
    if shuffle == "out":
        return size - 1
    return size + 1 if shuffle == "in" else 2 * size - 1


def _power_of_two(exponent, modulus):
    """Tell 2 to a power from 0 on, counted round."""
    found = 1 % modulus
    square = 2 % modulus
    left = exponent
    while left > 0:
        if left % 2 == 1:
            found = found * square % modulus
        square = square * square % modulus
        left = left // 2
    return found


def _led(shuffle, size, place, power):
    """Tell the place of the card from a place after as many times as the power of 2 tells."""
    modulus = _modulus(shuffle, size)
    if shuffle == "out":
        # The last card stays, although it is counted as the first one.
        return place if place == size - 1 else place * power % modulus
    if shuffle == "in":
        return (place + 1) * power % modulus - 1
    twice = 2 * place * power % modulus
    return twice // 2 if twice % 2 == 0 else (modulus - twice) // 2
