"""What types offer."""

from kindsunder.basics import put
from kindsunder.scopes import sound_scope
from kindsunder.tables import check_type


def offers_of(scope, shape):
    """The list of the tuples (name, use, type) that a type, of any size, offers, in ascending order of the names."""
    if isinstance(shape, str):
        return []
    found = []
    for number in scope.instances[shape[0]]:
        instance = scope.raised(shape, number)
        found.extend([(name, use, put(inner, instance[1:])) for name, use, inner in scope.rows[number][2]])
    # No two names are equal in a sound table.
    return sorted(found)


def offers(table, shape):
    """The list of the tuples (name, use, type) that the type offers, in ascending order of the names."""
    scope = sound_scope(table)
    check_type(scope.heads, shape)
    return offers_of(scope, shape)
