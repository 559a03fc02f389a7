"""In which order wanted names can be brought about, and why they can't."""

NOT_WANTED = -61
ROUND = -41


def in_order(wishes):
    """Each name behind all that it needs, but none that needs itself or what isn't wanted, by however many."""
    order = []
    placed = {}
    left = list(wishes)
    while left:
        later = []
        for name in left:
            if has_all(placed, wishes[name].needs):
                placed[name] = True
                order.append(name)
            else:
                later.append(name)
        if len(later) == len(left):
            return order
        left = later
    return order


def has_all(names, needs):
    return all([need in names for need in needs])


def refusal(wishes):
    """Why there are no steps, or None."""
    if not all([has_all(wishes, wish.needs) for wish in wishes.values()]):
        return NOT_WANTED
    # All that's needed is wanted here, so a name is left out of the order only if it is in a round or needs one.
    if len(in_order(wishes)) < len(wishes):
        return ROUND
    return None
