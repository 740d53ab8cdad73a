"""Which names hang on which in a book, and the rings in it. What is handed in here is a book already."""

from shownviews.ruleparts import head_name, name_in


def links_of(book):
    """From each derived name to a dict from the names in its rules' bodies to whether it hangs strongly on them."""
    links = {}
    for title in sorted(book):
        linked = links.setdefault(head_name(book[title]), {})
        for condition in book[title][1]:
            name = name_in(condition)
            if name is not None:
                linked[name] = linked.get(name, False) or condition[0] != "is"
    return links


def users_of(links):
    """From each name to the list of those that hang straight on it."""
    users = {}
    for name in links:
        for other in links[name]:
            users.setdefault(other, []).append(name)
    return users


def reached(links, names):
    """The names, and all that are reached from them by links, as the keys of a dict."""
    told = {name: True for name in names}
    waiting = list(names)
    while waiting:
        here = waiting.pop()
        for other in links.get(here, {}):
            if other not in told:
                told[other] = True
                waiting.append(other)
    return told


def hung_on(links, name):
    """The names that a name hangs on, itself among them, as the keys of a dict."""
    return reached(links, [name])


def steps_to(users, name):
    """From each name that hangs on this one to the fewest steps by which it does."""
    steps = {name: 0}
    nearest = [name]
    while nearest:
        following = []
        for other in nearest:
            for user in users.get(other, []):
                if user not in steps:
                    steps[user] = steps[other] + 1
                    following.append(user)
        nearest = following
    return steps


def ring_from(links, users, first):
    """The ring of the fewest names, the least of them, that begins with a strong step at first, None without."""
    linked = links.get(first, {})
    strong = [other for other in linked if linked[other]]
    steps = steps_to(users, first) if strong else {}
    ways = [(steps[other], other) for other in strong if other in steps]
    if not ways:
        return None
    ring = [first]
    left, here = min(ways)
    while left > 0:
        ring.append(here)
        left -= 1
        here = min([other for other in links[here] if steps.get(other) == left])
    return tuple(ring)


def least_ring(links, names):
    """Of the rings among the names the one of the fewest, the least of them, None without."""
    users = users_of(links)
    rings = [ring_from(links, users, name) for name in names]
    sized = [(len(ring), ring) for ring in rings if ring is not None]
    return min(sized)[1] if sized else None


def layers_of(links, names):
    """From each of the names, derived ones without a bar with all such on which they hang, to its layer."""
    layers = {name: 0 for name in names}
    grown = True
    while grown:
        grown = False
        for name in names:
            least = least_layer(links[name], layers)
            if least > layers[name]:
                layers[name] = least
                grown = True
    return layers


def least_layer(linked, layers):
    return max([0] + [layers[other] + int(linked[other]) for other in linked if other in layers])
