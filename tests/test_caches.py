"""Part 6: answers, keys, what answers rest on, sites, and what is forgotten."""

import random
import unittest

from reaimed.caches import MOST, Caches, key_of, rests_on
from reaimed.objects import Objects
from reaimed.search import search
from reaimed.shapes import Shapes
from values import kinds_in

ONE = ("num", 1)
TWO = ("num", 2)
NOTHING = ("nothing",)
NONE = ("none",)
SEVERAL = ("several",)


def ref(number):
    return ("ref", number)


class CacheCase(unittest.TestCase):
    def setUp(self):
        self.objects = Objects()
        self.shapes = Shapes()
        self.caches = Caches(self.objects, self.shapes)

    def make(self, *parents, kind="parent", names=()):
        """An object with these parents, then a var slot for each name; its id."""
        slots = [("p" + str(at), kind, ref(parent)) for at, parent in enumerate(parents)]
        return self.objects.make(tuple(slots + [(name, "var", ONE) for name in names]))

    def hit(self, site, name, number, answer):
        self.asked(self.caches.ask, (1, 0), (site, name, number), answer)

    def miss(self, site, name, number, answer):
        self.asked(self.caches.ask, (0, 1), (site, name, number), answer)

    def hit_resend(self, site, name, number, answer):
        self.asked(self.caches.ask_resend, (1, 0), (site, name, number), answer)

    def miss_resend(self, site, name, number, answer):
        self.asked(self.caches.ask_resend, (0, 1), (site, name, number), answer)

    def asked(self, question, counted, arguments, answer):
        hits, misses = self.caches.hits, self.caches.misses
        image = self.objects.image()
        self.assertEqual(question(*arguments), answer)
        self.assertEqual((self.caches.hits - hits, self.caches.misses - misses), counted)
        self.assertEqual(self.objects.image(), image)

    def rests(self, site):
        return [entry[3] for entry in self.caches.entries(site)]

    def names(self, site):
        return [entry[1] for entry in self.caches.entries(site)]


class TestInterface(CacheCase):
    def test_names(self):
        self.assertEqual(MOST, 4)
        for part in (Caches, key_of, rests_on):
            self.assertEqual(part.__module__, "reaimed.caches")
        for name in ("ask", "ask_resend", "changed", "gone", "entries"):
            self.assertIn(name, vars(Caches))

    def test_fields_at_the_beginning(self):
        fields = (self.caches.hits, self.caches.misses, self.caches.forgotten)
        self.assertEqual(fields, (0, 0, 0))
        self.assertEqual({field.__class__ for field in fields}, {int})

    def test_kinds_of_values(self):
        one = self.make(0, kind="varparent")
        self.assertEqual(kinds_in(self.caches.ask("s", "lobby", one)), {tuple, str, int})
        self.assertEqual(rests_on(self.objects, "lobby", one).__class__, list)
        self.assertEqual(self.caches.entries("s").__class__, list)
        self.assertEqual(kinds_in(tuple(self.caches.entries("s"))), {tuple, str, int})
        self.assertEqual(kinds_in(key_of(self.objects, self.shapes, "lobby", one)), {tuple, str, int})
        for number in (self.caches.changed(0), self.caches.gone([0])):
            self.assertEqual(number.__class__, int)

    def test_example_of_the_document(self):
        one, two = [self.objects.make((("p", "parent", ref(0)),)) for _ in range(2)]
        self.objects.drop(0, "lobby")
        self.objects.put(0, "x", "const", ONE)
        self.miss("site", "x", one, ("held", 0, 0))
        self.hit("site", "x", two, ("held", 0, 0))
        self.objects.put(0, "y", "const", ONE)
        self.assertEqual(self.caches.changed(0), 1)
        self.assertEqual(self.caches.entries("site"), [])
        self.assertEqual((self.caches.hits, self.caches.misses, self.caches.forgotten), (1, 1, 1))


class TestAnswers(CacheCase):
    def test_own(self):
        one = self.make(0, names=("x", "y", "z"))
        for at, name in enumerate(("p0", "x", "y", "z")):
            self.miss(name, name, one, ("own", at))
            self.hit(name, name, one, ("own", at))

    def test_own_hides_what_lies_behind(self):
        top = self.make(names=("x",))
        one = self.make(top, top, names=("y", "x"))
        self.miss("s", "x", one, ("own", 3))
        self.assertEqual(self.rests("s"), [()])

    def test_held(self):
        top = self.make(names=("y", "x"))
        one = self.make(self.make(top))
        self.miss("s", "x", one, ("held", top, 1))
        self.hit("s", "x", one, ("held", top, 1))

    def test_none(self):
        one = self.make(0)
        self.miss("s", "x", one, NONE)
        self.hit("s", "x", one, NONE)
        self.miss("t", "x", self.make(), NONE)

    def test_several(self):
        one = self.make(self.make(names=("x",)), self.make(names=("x",)))
        self.miss("s", "x", one, SEVERAL)
        self.hit("s", "x", one, SEVERAL)

    def test_indexes_are_those_of_the_moment(self):
        one = self.make(names=("x", "y"))
        self.miss("s", "y", one, ("own", 1))
        self.objects.drop(one, "x")
        self.assertEqual(self.caches.changed(one), 0)
        self.miss("s", "y", one, ("own", 0))


class TestKeys(CacheCase):
    def key(self, name, number):
        return key_of(self.objects, self.shapes, name, number)

    def test_with_the_name(self):
        one = self.make(0, kind="varparent", names=("x",))
        shape = self.shapes.shape_of(self.objects.slots(one))
        self.assertEqual(self.key("x", one), (shape, ()))
        self.assertEqual(self.key("p0", one), (shape, ()))

    def test_without_the_name(self):
        slots = (("a", "varparent", ref(0)), ("b", "parent", ref(1)), ("c", "var", TWO), ("d", "varparent", ONE))
        one = self.objects.make(slots)
        shape = self.shapes.shape_of(slots)
        self.assertEqual(self.key("x", one), (shape, (ref(0), ONE)))
        self.assertEqual(self.key("x", self.make(kind="varparent")), (0, ()))
        for name in "abcd":
            self.assertEqual(self.key(name, one), (shape, ()))

    def test_values_of_vars_do_not_count(self):
        one, two = [self.objects.make((("v", "var", ("num", k)), ("p", "parent", ref(0)))) for k in range(2)]
        self.assertEqual(self.key("x", one), self.key("x", two))
        self.assertEqual(self.key("v", one), self.key("v", two))

    def test_a_key_asks_for_one_shape(self):
        self.make(self.make(0, names=("y",)), kind="varparent")
        before = self.shapes.count()
        self.key("x", 2)
        self.assertEqual((self.shapes.count(), self.shapes.ways_used), (before + 1, 0))
        self.assertEqual(self.shapes.row(before), (("p0", "varparent", None),))

    def test_the_same_key_is_the_same_question(self):
        one, two = [self.make(0, kind="varparent", names=("x",)) for _ in range(2)]
        other = self.make(one, kind="varparent", names=("x",))
        self.miss("s", "x", one, ("own", 1))
        self.hit("s", "x", two, ("own", 1))
        self.hit("s", "x", other, ("own", 1))
        self.miss("s", "lobby", one, ("held", 0, 0))
        self.hit("s", "lobby", two, ("held", 0, 0))
        self.miss("s", "lobby", other, ("held", 0, 0))
        self.assertEqual(self.caches.entries("s"), [
            ((1, ()), "x", ("own", 1), ()),
            ((1, (ref(0),)), "lobby", ("held", 0, 0), (0,)),
            ((1, (ref(one),)), "lobby", ("held", 0, 0), (0, one))])

    def test_keys_are_of_the_moment(self):
        one = self.make(0, kind="varparent")
        self.miss("s", "lobby", one, ("held", 0, 0))
        self.objects.assign(one, "p0", NOTHING)
        self.miss("s", "lobby", one, NONE)
        self.objects.assign(one, "p0", ref(0))
        self.hit("s", "lobby", one, ("held", 0, 0))


class TestRests(CacheCase):
    def check(self, name, number, ids):
        self.assertEqual(rests_on(self.objects, name, number), ids)
        self.caches.ask(("rests", number, name), name, number)
        self.assertEqual(self.rests(("rests", number, name))[-1], tuple(ids))

    def test_own_answers_rest_on_nothing(self):
        self.check("lobby", 0, [])
        self.check("x", self.make(0, names=("x",)), [])

    def test_all_that_is_looked_at(self):
        top = self.make(0)
        left, right = self.make(top), self.make(top, names=("x",))
        one = self.make(right, left)
        self.check("x", one, [0, top, left, right])
        self.check("lobby", one, [0, top, left, right])
        self.check("y", one, [0, top, left, right])

    def test_nothing_behind_a_holder(self):
        one = self.make(self.make(self.make(0), names=("x",)))
        self.check("x", one, [2])
        self.check("y", one, [0, 1, 2])

    def test_without_parents(self):
        self.check("x", self.make(), [])
        self.check("x", self.make(names=("y",)), [])

    def test_parents_that_are_no_objects(self):
        slots = [("s" + str(at), "parent", value) for at, value in enumerate((
            NOTHING, ("num", 0), ("block", 0), ("method", 0), ref(0), ("true",)))]
        self.check("x", self.objects.make(tuple(slots)), [0])
        self.check("x", self.objects.make(tuple(slots[:4])), [])

    def test_rings(self):
        one = self.make(0)
        two = self.make(one)
        self.objects.put(one, "q", "varparent", ref(two))
        self.check("x", one, [0, one, two])
        self.check("x", two, [0, one, two])
        self.check("x", self.make(one), [0, one, two])

    def test_its_own_parent(self):
        one = self.make(0)
        self.check("x", one, [0])
        self.objects.put(one, "q", "parent", ref(one))
        self.check("x", one, [0, one])
        self.objects.put(one, "x", "parent", ref(one))
        self.check("x", one, [])

    def test_a_list_of_its_own(self):
        one = self.make(0)
        rests_on(self.objects, "x", one).append(9)
        self.check("x", one, [0])

    def test_long_chains(self):
        number = 0
        for _ in range(4000):
            number = self.make(number)
        self.check("x", number, list(range(number)))
        self.assertEqual(self.caches.ask("s", "lobby", number), ("held", 0, 0))
        self.assertEqual(self.caches.changed(2000), 2)
        self.assertEqual(self.caches.entries("s"), [])


class TestSites(CacheCase):
    def test_unknown_sites(self):
        self.assertEqual(self.caches.entries("s"), [])
        self.assertEqual(self.caches.entries((1, "s")), [])
        self.assertEqual((self.caches.hits, self.caches.misses), (0, 0))

    def test_strings_integers_and_tuples(self):
        sites = ("1", 1, -1, "", (), (1,), ("1",), (1, 2), (2, 1), ((1, 2), "x"))
        for site in sites:
            self.miss(site, "lobby", 0, ("own", 0))
        for site in sites:
            self.hit(site, "lobby", 0, ("own", 0))
            self.assertEqual(len(self.caches.entries(site)), 1)

    def test_names_are_told_apart(self):
        one = self.make(names=("x", "y"))
        self.miss("s", "x", one, ("own", 0))
        self.miss("s", "y", one, ("own", 1))
        self.hit("s", "x", one, ("own", 0))
        self.hit("s", "y", one, ("own", 1))
        self.assertEqual(self.names("s"), ["x", "y"])

    def test_a_fifth_entry(self):
        numbers = [self.make(*[0] * many, names=("x",)) for many in range(6)]
        for many in range(4):
            self.miss("s", "x", numbers[many], ("own", many))
        self.assertEqual(self.caches.forgotten, 0)
        self.assertEqual([entry[2] for entry in self.caches.entries("s")], [("own", at) for at in range(4)])
        # A hit makes an entry no younger.
        self.hit("s", "x", numbers[0], ("own", 0))
        self.miss("s", "x", numbers[4], ("own", 4))
        self.assertEqual(self.caches.forgotten, 1)
        self.assertEqual([entry[2] for entry in self.caches.entries("s")], [("own", at) for at in (1, 2, 3, 4)])
        self.hit("s", "x", numbers[1], ("own", 1))
        self.miss("s", "x", numbers[0], ("own", 0))
        self.miss("s", "x", numbers[1], ("own", 1))
        self.assertEqual([entry[2] for entry in self.caches.entries("s")], [("own", at) for at in (3, 4, 0, 1)])
        self.assertEqual(self.caches.forgotten, 3)

    def test_a_fifth_entry_at_another_site(self):
        for site in ("s", "t"):
            for name in "abc":
                self.miss(site, name, 0, NONE)
        self.assertEqual(self.caches.forgotten, 0)
        self.assertEqual((self.names("s"), self.names("t")), (list("abc"), list("abc")))

    def test_what_was_forgotten_as_the_oldest_is_not_forgotten_again(self):
        one = self.make(0)
        for name in "abcde":
            self.miss("s", name, one, NONE)
        self.assertEqual(self.caches.forgotten, 1)
        self.assertEqual(self.caches.changed(0), 4)
        self.assertEqual(self.caches.forgotten, 5)

    def test_room_behind_a_change(self):
        one = self.make(0)
        for name in "abcd":
            self.miss("s", name, one if name in "ac" else 0, NONE)
        self.assertEqual(self.caches.changed(0), 2)
        self.assertEqual(self.names("s"), ["b", "d"])
        self.miss("s", "e", one, NONE)
        self.miss("s", "f", one, NONE)
        self.assertEqual((self.names("s"), self.caches.forgotten), (["b", "d", "e", "f"], 2))
        self.miss("s", "g", one, NONE)
        self.assertEqual((self.names("s"), self.caches.forgotten), (["d", "e", "f", "g"], 3))

    def test_lists_of_their_own(self):
        self.miss("s", "x", 0, NONE)
        entries = self.caches.entries("s")
        entries.clear()
        self.caches.entries("t").append("more")
        self.assertEqual(self.names("s"), ["x"])
        self.assertEqual(self.caches.entries("t"), [])
        self.hit("s", "x", 0, NONE)

    def test_one_shape_for_each_question(self):
        self.make(self.make(0, names=("y",)))
        for _ in range(2):
            self.caches.ask("s", "lobby", 2)
            self.assertEqual((self.shapes.count(), self.shapes.ways_used), (2, 0))
        self.assertEqual(self.shapes.row(1), (("p0", "parent", ref(1)),))
        self.caches.ask_resend("s", "lobby", 1)
        self.assertEqual(self.shapes.count(), 2)


class TestResends(CacheCase):
    def test_the_search_begins_behind_the_holder(self):
        top = self.make(names=("y", "x"))
        one = self.make(top, names=("x",))
        self.miss_resend("s", "x", one, ("held", top, 1))
        self.hit_resend("s", "x", one, ("held", top, 1))
        self.assertEqual(self.caches.entries("s"), [(("resend", one), "x", ("held", top, 1), (top, one))])

    def test_none_and_several(self):
        one = self.make(names=("x",))
        self.miss_resend("s", "x", one, NONE)
        self.assertEqual(self.rests("s"), [(one,)])
        other = self.make(names=("x",))
        two = self.make(other, one)
        self.miss_resend("s", "x", two, SEVERAL)
        self.assertEqual(self.rests("s"), [(one,), (one, other, two)])

    def test_rings_that_lead_back(self):
        one = self.make(names=("x",))
        two = self.make(one)
        self.objects.put(one, "p", "parent", ref(two))
        self.miss_resend("s", "x", one, ("held", one, 0))
        self.assertEqual(self.rests("s"), [(one, two)])
        self.objects.put(one, "p", "parent", ref(one))
        self.assertEqual(self.caches.changed(one), 1)
        self.miss_resend("s", "x", one, ("held", one, 0))
        self.assertEqual(self.rests("s"), [(one,)])

    def test_the_holder_and_the_name_are_the_key(self):
        top = self.make(names=("x", "y"))
        one, two = self.make(top), self.make(top)
        self.miss_resend("s", "x", one, ("held", top, 0))
        self.miss_resend("s", "x", two, ("held", top, 0))
        self.miss_resend("s", "y", one, ("held", top, 1))
        self.hit_resend("s", "x", two, ("held", top, 0))
        self.assertEqual([entry[0] for entry in self.caches.entries("s")], [
            ("resend", one), ("resend", two), ("resend", one)])

    def test_questions_and_resends_at_one_site(self):
        top = self.make(names=("x",))
        one = self.make(top)
        self.miss("s", "x", one, ("held", top, 0))
        self.miss_resend("s", "x", one, ("held", top, 0))
        self.hit("s", "x", one, ("held", top, 0))
        self.hit_resend("s", "x", one, ("held", top, 0))
        self.miss_resend("s", "x", top, NONE)
        self.miss("s", "x", top, ("own", 0))
        self.assertEqual(len(self.caches.entries("s")), 4)
        self.miss_resend("s", "y", top, NONE)
        self.assertEqual([entry[0][0] for entry in self.caches.entries("s")][0], "resend")
        self.assertEqual(self.caches.forgotten, 1)

    def test_a_change_of_the_holder(self):
        one = self.make(0)
        self.miss_resend("s", "x", one, NONE)
        self.assertEqual(self.caches.changed(one), 1)
        self.miss_resend("s", "x", one, NONE)
        self.assertEqual(self.caches.changed(0), 1)


class TestForgetting(CacheCase):
    def test_at_all_sites(self):
        one = self.make(0)
        two = self.make(one)
        for site in ("s", 1, (1, 2)):
            self.miss(site, "x", two, NONE)
            self.miss(site, "y", one, NONE)
            self.miss(site, "p0", one, ("own", 0))
        self.assertEqual(self.caches.changed(one), 3)
        for site in ("s", 1, (1, 2)):
            self.assertEqual(self.names(site), ["y", "p0"])
        self.assertEqual(self.caches.changed(0), 3)
        self.assertEqual(self.caches.changed(0), 0)
        self.assertEqual(self.caches.changed(one), 0)
        self.assertEqual(self.caches.forgotten, 6)
        for site in ("s", 1, (1, 2)):
            self.assertEqual(self.names(site), ["p0"])

    def test_an_object_on_which_nothing_rests(self):
        self.miss("s", "x", 0, NONE)
        self.assertEqual(self.caches.changed(0), 0)
        self.assertEqual(self.caches.changed(77), 0)
        self.assertEqual((self.names("s"), self.caches.forgotten), (["x"], 0))

    def test_gone_counts_each_entry_once(self):
        one = self.make(0)
        two = self.make(one)
        self.miss("s", "x", two, NONE)
        self.miss("s", "y", one, NONE)
        self.miss("t", "y", two, NONE)
        self.miss("t", "lobby", 0, ("own", 0))
        self.assertEqual(self.caches.gone([0, one, two, 77]), 3)
        self.assertEqual(self.caches.forgotten, 3)
        self.assertEqual((self.names("s"), self.names("t")), ([], ["lobby"]))
        self.assertEqual(self.caches.gone([0, one]), 0)

    def test_gone_with_some_objects(self):
        one, two = self.make(0), self.make()
        self.miss("s", "x", self.make(one), NONE)
        self.miss("s", "y", self.make(two), NONE)
        ids = [one, one]
        self.assertEqual(self.caches.gone(ids), 1)
        self.assertEqual(ids, [one, one])
        self.assertEqual(self.names("s"), ["y"])
        self.assertEqual(self.caches.gone([]), 0)

    def test_assigning_a_var_forgets_nothing(self):
        one = self.make(self.make(0, names=("x",)))
        self.miss("s", "x", one, ("held", 1, 1))
        self.objects.assign(1, "x", TWO)
        self.hit("s", "x", one, ("held", 1, 1))
        self.assertEqual(self.caches.forgotten, 0)

    def test_two_caches_are_apart(self):
        other = Caches(self.objects, self.shapes)
        one = self.make(0)
        self.miss("s", "x", one, NONE)
        self.assertEqual((other.misses, other.entries("s")), (0, []))
        self.assertEqual(other.changed(0), 0)
        self.assertEqual(self.names("s"), ["x"])


class TestByChance(CacheCase):
    """Questions between changes, against a list of entries for each site and plain searches."""

    def answer(self, starts, name):
        outcome = search(self.objects, starts, name)[0]
        if outcome[0] != "found":
            return outcome
        return ("held", outcome[1], [slot[0] for slot in self.objects.slots(outcome[1])].index(name))

    def expected(self, resend, name, number):
        """The entry of a question, from the points of the document alone."""
        slots = self.objects.slots(number)
        names = [slot[0] for slot in slots]
        behind = search(self.objects, self.objects.parents(number), name)[1]
        if resend:
            key = ("resend", number)
            return (key, name, self.answer(self.objects.parents(number), name), tuple(sorted({number, *behind})))
        if name in names:
            return ((self.shapes.shape_of(slots), ()), name, ("own", names.index(name)), ())
        values = tuple(value for _, kind, value in slots if kind == "varparent")
        return ((self.shapes.shape_of(slots), values), name, self.answer((number,), name), tuple(sorted(behind)))

    def ask(self, chance, model):
        site, name = chance.randrange(3), chance.choice("xyzp")
        number, resend = chance.randrange(5), chance.randrange(3) == 0
        entry = self.expected(resend, name, number)
        row = model.setdefault(site, [])
        known = [other for other in row if other[:2] == entry[:2]]
        question = self.caches.ask_resend if resend else self.caches.ask
        self.asked(question, (1, 0) if known else (0, 1), (site, name, number), entry[2])
        if known:
            # An entry that is still there is what would be found now.
            self.assertEqual(known, [entry])
        else:
            row.append(entry)
            del row[:-4]
        for site, row in model.items():
            self.assertEqual(self.caches.entries(site), row)

    def change(self, chance, model):
        number, name = chance.randrange(5), chance.choice("xyzpq")
        value = chance.choice((ONE, ref(chance.randrange(5)), ref(chance.randrange(5))))
        slot = self.objects.slot(number, name)
        if chance.randrange(3) == 0 and slot is not None:
            self.objects.drop(number, name)
        elif chance.randrange(2) == 0 and slot is not None and slot[0] in ("var", "varparent"):
            self.objects.assign(number, name, value)
            if slot[0] == "var":
                return
        else:
            self.objects.put(number, name, chance.choice(("var", "const", "parent", "varparent", "parent")), value)
        lost = 0
        for site in model:
            left = [entry for entry in model[site] if number not in entry[3]]
            lost += len(model[site]) - len(left)
            model[site] = left
        self.assertEqual(self.caches.changed(number), lost)

    def test_questions_and_changes(self):
        for seed in range(60):
            self.setUp()
            chance, model = random.Random(seed), {}
            for _ in range(4):
                self.make(*[chance.randrange(5) for _ in range(chance.randrange(3))], kind="varparent")
            for _ in range(120):
                if chance.randrange(3):
                    self.ask(chance, model)
                else:
                    self.change(chance, model)
            ids = chance.sample(range(5), 2)
            lost = sum(bool(set(ids) & set(entry[3])) for row in model.values() for entry in row)
            self.assertEqual(self.caches.gone(ids), lost)


if __name__ == "__main__":
    unittest.main()
