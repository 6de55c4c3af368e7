"""Deciding which type is under which, with a derivation or a refusal."""

from kindsunder.basics import text_of
from kindsunder.errors import InvalidRows
from kindsunder.scopes import sound_scope, tame_scope
from kindsunder.searching import searched
from kindsunder.tables import check_type
from kindsunder.under import are_rows, needs_of


def key_of(pair):
    """A string for a pair of types: types may be nested too deep for the keys of a dict."""
    return f"{text_of(pair[0])} {text_of(pair[1])}"


def decide(scope, s, t):
    """A tuple (rows, None) with a derivation of the pair, or (None, road) with a refusal of it.

    It comes to an end in a tame table, where closures are finite, and in any sound table if there is a derivation.
    """
    return searched((s, t), lambda pair: needs_of(scope, pair[0], pair[1]), key_of)


def holds(scope, s, t):
    """True if s is under t, in a tame table. The scope keeps the answer: runs ask the same again and again."""
    key = key_of((s, t))
    if key not in scope.known:
        scope.known[key] = decide(scope, s, t)[0] is not None
    return scope.known[key]


def pair_scope(table, s, t):
    """The scope of a sound and tame table. Raises InvalidType for two types, behind the errors of the table."""
    scope = tame_scope(table)
    check_type(scope.heads, s)
    check_type(scope.heads, t)
    return scope


def is_under(table, s, t):
    """True if s is under t."""
    return holds(pair_scope(table, s, t), s, t)


def derivation(table, s, t):
    """Any derivation of (s, t), or None."""
    return decide(pair_scope(table, s, t), s, t)[0]


def refusal(table, s, t):
    """Any refusal of (s, t), or None."""
    return decide(pair_scope(table, s, t), s, t)[1]


def joined(table, first, second):
    """Any derivation of (s, u), where first and second are derivations of (s, t) and (t, u)."""
    scope = sound_scope(table)
    if not are_rows(scope, first) or not are_rows(scope, second) or first[-1][1] != second[-1][0]:
        raise InvalidRows("these are not derivations of pairs (s, t) and (t, u)")
    return decide(scope, first[-1][0], second[-1][1])[0]
