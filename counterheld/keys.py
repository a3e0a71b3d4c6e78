"""Keys: their scales, and the degrees of tones in them."""

from counterheld.errors import ScoreError
from counterheld.kinds import is_pair, is_whole
from counterheld.names import letter_name
from counterheld.tones import with_steps

MOST_SIGNS = 7


class BadKey(ScoreError):
    """A pair that is no key."""


def scale(key, octave):
    """The seven tones from the key's own tone up, whose octave number is told."""
    own = _own_f(key)
    first = 7 * octave + _letter(own)
    return tuple([_scale_tone(key, step) for step in range(first, first + 7)])


def degree(key, tone):
    """The degree of the tone in the key, and its signs above the scale's tone."""
    own = _own_f(key)
    letter = _letter(tone[0])
    signs = (tone[0] - _scale_f(key, letter)) // 7
    return ((letter - _letter(own)) % 7 + 1, signs)


def key_name(key):
    own = _own_f(key)
    return letter_name(own) + (" minor" if key[1] else " major")


def tone_of(key, degree, signs, octave):
    """The tone of a degree with signs above the scale's tone, in its own octave."""
    letter = (_letter(_own_f(key)) + degree - 1) % 7
    return with_steps(_scale_f(key, letter) + 7 * signs, 7 * octave + letter)


def _own_f(key):
    """The f of the key's own tone; raises BadKey for what is no key."""
    if not is_pair(key) or not is_whole(key[0], -MOST_SIGNS, MOST_SIGNS) or not isinstance(key[1], bool):
        raise BadKey("no key")
    return key[0] + 3 if key[1] else key[0]


def _letter(f):
    """The number of the letter of the tones with this f."""
    return 4 * f % 7


def _scale_f(key, letter):
    """The f of the scale's tone with this letter."""
    first = key[0] - 1
    # 4 * 2 is 1 modulo 7: the f of a letter are 2 * letter modulo 7.
    return first + (2 * letter - first) % 7


def _scale_tone(key, step):
    """The scale's tone that stands so many steps above C0."""
    return with_steps(_scale_f(key, step % 7), step)
