"""Rights: who may read, write and own which addresses."""

from labelgrid.addresses import common, inside, place_key, without
from labelgrid.cellsets import mask_of

RIGHTS = ["read", "write", "own"]


def _users_with(rule, right):
    """Return the list of the users to whom a rule gives a right."""
    return rule[RIGHTS.index(right) + 1]


def rule_at(rules, address):
    """Return the index of the rule that counts for an address, the last one whose range has it."""
    return max([index for index, rule in enumerate(rules) if inside(address, rule[0])])


def allowed(rules, right, address):
    """Return the list of the users who have a right on an address."""
    return list(_users_with(rules[rule_at(rules, address)], right))


def may(rules, user, right, address):
    """Return whether a user has a right on an address."""
    return user in allowed(rules, right, address)


def parts_by_rule(rules, area):
    """Return the list of the pairs of a part of a range and the index of the rule that counts for it."""
    parts = []
    left = [area]
    for index in reversed(range(len(rules))):
        place = rules[index][0]
        for part in left:
            shared = common(part, place)
            if shared is not None:
                parts.append((shared, index))
        left = [piece for part in left for piece in without(part, place)]
    return sorted(parts, key=lambda pair: place_key(pair[0][0]))


def refused_parts(rules, user, right, area):
    """Return the list of the parts of a range on which a user does not have a right."""
    return [part for part, index in parts_by_rule(rules, area) if user not in _users_with(rules[index], right)]


def refused_set(rules, user, right):
    """Return the set (labelgrid.cellsets) of the addresses on which a user does not have a right."""
    refused = 0
    for rule in rules:
        cells = mask_of(rule[0])
        if user in _users_with(rule, right):
            refused = refused & ~cells
        else:
            refused = refused | cells
    return refused


def may_all(rules, user, right, area):
    """Return whether a user has a right on each address of a range."""
    return refused_set(rules, user, right) & mask_of(area) == 0


def allowed_all(rules, right, area, users):
    """Return the list of the users, of so many, who have a right on each address of a range."""
    return [user for user in range(users) if may_all(rules, user, right, area)]
