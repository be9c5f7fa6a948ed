"""Grants: calls over ranges whose values are released to users who may not read the ranges."""

from labelgrid.addresses import place_key
from labelgrid.rights import may_all
from labelgrid.uses import uses_in_entry


def is_live(rules, grant):
    """Return whether a grant is live: not revoked, and its giver owns its whole range."""
    area, _, _, by, revoked = grant
    return not revoked and may_all(rules, by, "own", area)


def live_grants(rules, grants):
    """Return the list of the indexes of the live grants."""
    return [index for index, grant in enumerate(grants) if is_live(rules, grant)]


def _fits(grant, function, area):
    """Return whether a grant has exactly a range and names a function."""
    return grant[0] == area and function in grant[1]


def releasing(rules, grants, function, area):
    """Return the list of the indexes of the live grants that have a range and name a function."""
    fitting = [index for index, grant in enumerate(grants) if _fits(grant, function, area)]
    return [index for index in fitting if is_live(rules, grants[index])]


def released_to(rules, grants, function, area):
    """Return the list of the users to whom the live grants release a function of a range, ascending."""
    users = {user: True for index in releasing(rules, grants, function, area) for user in grants[index][2]}
    return sorted(users)


def calls_at(entries, address):
    """Return the list of the triples of the node, the function and the range of the calls that may be released."""
    uses = uses_in_entry(entries.get(address, ""))
    return [(node, function, area) for area, node, function in uses if node is not None]


def releases_of(grants, live, address, calls):
    """Return the list of the quadruples of the releases of calls of one address by grants with some indexes."""
    return [(address, node, index, list(grants[index][2]))
            for node, function, area in calls for index in live if _fits(grants[index], function, area)]


def released_calls(book):
    """Return the list of the quadruples (address, node, index of the grant, its users) of all releases."""
    _, _, entries, _, rules, grants = book
    live = live_grants(rules, grants)
    found = []
    for address in sorted(entries, key=place_key):
        found.extend(releases_of(grants, live, address, calls_at(entries, address)))
    return found
