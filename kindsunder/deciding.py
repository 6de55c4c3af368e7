"""Deciding which type is under which, with a derivation or a refusal."""

from kindsunder.basics import text_of
from kindsunder.errors import InvalidRows
from kindsunder.growth import check_tame
from kindsunder.sound import check_sound
from kindsunder.tables import check_table, check_type
from kindsunder.under import are_rows, needs_of


def key_of(pair):
    """A string for a pair of types: types may be nested too deep for the keys of a dict."""
    return f"{text_of(pair[0])} {text_of(pair[1])}"


def decide(table, s, t):
    """A tuple (rows, None) with a derivation of the pair, or (None, road) with a refusal of it.

    The road holds the pairs that are begun, each of which needs the next one; a pair becomes a row when all
    pairs that it needs are rows. The loop ends if only finitely many pairs come up, so in a tame table, and
    in any sound table if there is a derivation.
    """
    rows = []
    numbers = {}
    road = [(s, t)]
    begun = {key_of((s, t)): True}
    while road:
        wanted = needs_of(table, road[-1][0], road[-1][1])
        if wanted is None:
            return None, road
        keys = [key_of(pair) for pair in wanted]
        lacking = [at for at, key in enumerate(keys) if key not in numbers]
        if not lacking:
            numbers[key_of(road[-1])] = len(rows)
            rows.append(road.pop() + (tuple([numbers[key] for key in keys]),))
        elif keys[lacking[0]] in begun:
            return None, road
        else:
            road.append(wanted[lacking[0]])
            begun[keys[lacking[0]]] = True
    return rows, None


def check_pair(table, s, t):
    """Raise what the functions raise that are for sound and tame tables and take two types."""
    check_table(table)
    check_sound(table)
    check_tame(table)
    check_type(table, s)
    check_type(table, t)


def is_under(table, s, t):
    """True if s is under t."""
    check_pair(table, s, t)
    return decide(table, s, t)[0] is not None


def derivation(table, s, t):
    """Any derivation of (s, t), or None."""
    check_pair(table, s, t)
    return decide(table, s, t)[0]


def refusal(table, s, t):
    """Any refusal of (s, t), or None."""
    check_pair(table, s, t)
    return decide(table, s, t)[1]


def joined(table, first, second):
    """Any derivation of (s, u), where first and second are derivations of (s, t) and (t, u)."""
    check_table(table)
    check_sound(table)
    if not are_rows(table, first) or not are_rows(table, second) or first[-1][1] != second[-1][0]:
        raise InvalidRows("these are not derivations of pairs (s, t) and (t, u)")
    return decide(table, first[-1][0], second[-1][1])[0]
