"""Searches: which slot an object has itself or from its parents."""


def search(objects, starts, name):
    """Return the outcome of a search, and the ids of the objects that it looks at in order."""
    looked = {}
    holders = []
    # The next object to look at is the last one here. Parents may make long
    # chains, so the objects that wait stand in a list and not in calls.
    waiting = list(starts[::-1])
    while len(waiting) > 0:
        object_id = waiting.pop()
        if object_id in looked:
            continue
        looked[object_id] = True
        if objects.slot(object_id, name) is not None:
            holders.append(object_id)
        else:
            waiting.extend(objects.parents(object_id)[::-1])
    return (outcome_of(objects, holders, name), tuple(looked))


def outcome_of(objects, holders, name):
    """Return the outcome of a search that has found these holders."""
    if len(holders) == 0:
        return ("none",)
    if len(holders) > 1:
        return ("several",)
    kind, value = objects.slot(holders[0], name)
    return ("found", holders[0], kind, value)


def search_value(objects, value, name):
    """Return the same for the search that begins at a value, which may be no object."""
    if value[0] != "ref":
        return (("none",), ())
    return search(objects, (value[1],), name)
