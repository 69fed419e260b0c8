"""Caches: answers of searches that are remembered until they may change."""

from reaimed.search import search

MOST = 4


def key_of(objects, shapes, name, object_id):
    """Return the key of the question for a name in an object."""
    slots = objects.slots(object_id)
    shape = shapes.shape_of(slots)
    if objects.slot(object_id, name) is not None:
        return (shape, ())
    return (shape, tuple([slots[at][2] for at in shapes.free_parents(shape)]))


def rests_on(objects, name, object_id):
    """Return the ids of the objects on which the answer for a name in an object rests."""
    if objects.slot(object_id, name) is not None:
        return []
    _, looked = search(objects, objects.parents(object_id), name)
    return sorted(looked)


def index_of(objects, object_id, name):
    """Return the index of a slot that is there."""
    names = [slot[0] for slot in objects.slots(object_id)]
    return names.index(name)


class Caches:
    """The entries of all sites.

    Each entry has a number of its own, in the order in which the entries are
    made. A site leads to its entries by their numbers, and an object to the
    numbers of the entries that rest on it, with their sites.
    """

    def __init__(self, objects, shapes):
        self.objects = objects
        self.shapes = shapes
        self.hits = 0
        self.misses = 0
        self.forgotten = 0
        self.sites = {}
        self.resting = {}
        self.next_number = 0

    def ask(self, site, name, object_id):
        """Return the answer for a name in an object, asked at a site."""
        key = key_of(self.objects, self.shapes, name, object_id)
        known = self.known_answer(site, key, name)
        if known is not None:
            return known
        if self.objects.slot(object_id, name) is not None:
            answer = ("own", index_of(self.objects, object_id, name))
            return self.remember(site, (key, name, answer, ()))
        answer, looked = self.searched(self.objects.parents(object_id), name)
        return self.remember(site, (key, name, answer, tuple(sorted(looked))))

    def ask_resend(self, site, name, holder):
        """Return the answer for a name in the parents of a holder, asked at a site."""
        key = ("resend", holder)
        known = self.known_answer(site, key, name)
        if known is not None:
            return known
        answer, looked = self.searched(self.objects.parents(holder), name)
        rests = tuple(sorted(set([holder, *looked])))
        return self.remember(site, (key, name, answer, rests))

    def known_answer(self, site, key, name):
        """Return the answer of the entry of a site with a key and a name, or None; count it."""
        for entry in self.entries(site):
            if entry[0] == key and entry[1] == name:
                self.hits += 1
                return entry[2]
        self.misses += 1
        return None

    def searched(self, starts, name):
        """Return the answer of a search, and the ids of the objects that it looks at."""
        outcome, looked = search(self.objects, starts, name)
        if outcome[0] != "found":
            return (outcome, looked)
        return (("held", outcome[1], index_of(self.objects, outcome[1], name)), looked)

    def remember(self, site, entry):
        """Make an entry at a site and return its answer."""
        numbers = self.sites.setdefault(site, {})
        if len(numbers) == MOST:
            self.forget(site, min(numbers))
        number = self.next_number
        self.next_number += 1
        numbers[number] = entry
        for object_id in entry[3]:
            resting = self.resting.setdefault(object_id, {})
            resting[number] = site
        return entry[2]

    def forget(self, site, number):
        """Forget an entry of a site."""
        entry = self.sites[site].pop(number)
        for object_id in entry[3]:
            del self.resting[object_id][number]
        self.forgotten += 1

    def changed(self, object_id):
        """Forget the entries that rest on an object; return how many."""
        numbers = dict(self.resting.get(object_id, {}))
        for number, site in numbers.items():
            self.forget(site, number)
        return len(numbers)

    def gone(self, ids):
        """Forget the entries that rest on any of these objects; return how many."""
        many = 0
        for object_id in ids:
            many += self.changed(object_id)
        return many

    def entries(self, site):
        """Return the list of the entries of a site, in the order in which they were made."""
        return list(self.sites.get(site, {}).values())
