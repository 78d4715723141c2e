"""Promises 20 and 21: ties put at corners, and hues kept while places and ties come and go."""

import itertools
import random
import unittest

from fivehues.errors import NoCorner, NoName, NoPlace, NotFlat, NoTie, Twice
from fivehues.faces import faces, pieces
from fivehues.fives import five_hues
from fivehues.keeping import Kept
from fivehues.webs import Web
from fivehues.webtexts import read_web
from tests.helpers import BOW, FOUR, NO_NAMES, PIECES, SECOND, STAR, THREE_HELD, TRIANGLE, are_right, beside, caps
from tests.helpers import chance_webs, come_to, flat_webs, grid, pairs_round, refusal, rounds, same_rounds

LETTERS = "abcdefghijklmnopqrstuvwxyz"


def turned(around):
    """A round from its least place on."""
    at = around.index(min(around)) if around else 0
    return around[at:] + around[:at]


class Refusal(Exception):
    """What the model refuses, with the class and the values that are to be told."""


class Model:
    """The web, its rounds and its hues kept anew, by the document's words."""

    def __init__(self, web):
        self.rounds = dict(rounds(web))
        self.hues = five_hues(web)
        self.ways = []

    def told_rounds(self):
        return [(place, turned(self.rounds[place])) for place in sorted(self.rounds)]

    def add(self, place):
        if not (isinstance(place, str) and 0 < len(place) < 9 and set(place) <= set(LETTERS)):
            raise Refusal(NoName)
        if place in self.rounds:
            raise Refusal(Twice)
        self.rounds[place] = []
        self.hues[place] = 0
        return []

    def drop(self, place):
        if place not in self.rounds:
            raise Refusal(NoPlace)
        for other in self.rounds[place]:
            self.rounds[other].remove(place)
        del self.rounds[place], self.hues[place]
        return []

    def untie(self, one, other):
        if one not in self.rounds or other not in self.rounds:
            raise Refusal(NoPlace)
        if other not in self.rounds[one]:
            raise Refusal(NoTie)
        self.rounds[one].remove(other)
        self.rounds[other].remove(one)
        return []

    def tie(self, one, behind, other, after):
        if one not in self.rounds or other not in self.rounds:
            raise Refusal(NoPlace)
        if one == other or other in self.rounds[one]:
            raise Refusal(Twice)
        for place, corner in [(one, behind), (other, after)]:
            if corner not in (self.rounds[place] or [None]):
                raise Refusal(NoCorner)
        flat = self.is_flat_by_corners(one, behind, other, after)
        ahead = {place: list(self.rounds[place]) for place in self.rounds}
        for place, corner, new in [(one, behind, other), (other, after, one)]:
            around = self.rounds[place]
            around.insert(around.index(corner) + 1 if around else 0, new)
        if not flat:
            numbers = self.numbers(one)
            self.rounds = ahead
            raise Refusal(NotFlat, numbers)
        old = dict(self.hues)
        if old[one] == old[other]:
            self.part(ahead, one, other)
        return sorted((place, old[place], self.hues[place]) for place in old if old[place] != self.hues[place])

    def face_from(self, step):
        """The steps of a face, from one of them on."""
        found = []
        while step not in found:
            found.append(step)
            start, to = step
            around = self.rounds[to]
            step = (to, around[(around.index(start) + 1) % len(around)])
        return found

    def piece(self, start):
        found = [start]
        for place in found:
            found += [other for other in self.rounds[place] if other not in found]
        return found

    def is_flat_by_corners(self, one, behind, other, after):
        if other not in self.piece(one):
            return True
        return (after, other) in self.face_from((behind, one))

    def numbers(self, place):
        piece = self.piece(place)
        steps = [(one, other) for one in piece for other in self.rounds[one]]
        many_faces = len({min(self.face_from(step)) for step in steps})
        return (len(piece), len(steps) // 2, many_faces)

    def chain(self, around, start, other):
        two = [self.hues[start], other]
        found = [start]
        for place in found:
            found += [near for near in around[place] if self.hues[near] in two and near not in found]
        return found

    def part(self, ahead, one, other):
        for way, place in [("one", one), ("other", other)]:
            free = sorted(set(range(5)) - {self.hues[near] for near in self.rounds[place]})
            if free:
                self.ways.append(way)
                self.hues[place] = free[0]
                return
        mine = self.hues[one]
        for hue in range(5):
            found = self.chain(ahead, one, hue)
            if hue != mine and other not in found:
                self.ways.append("chain")
                for place in found:
                    self.hues[place] = hue if self.hues[place] == mine else mine
                return
        self.ways.append("anew")
        self.hues = five_hues(Web(self.told_rounds()))


def come_with_hue(kept, name, hue, depth=0):
    """Let a place come that is tied to nobody and has a hue, by the help of others that go again."""
    kept.add(name)
    helpers = ["zz" + LETTERS[depth] + LETTERS[at] for at in range(hue)]
    for at, helper in enumerate(helpers):
        come_with_hue(kept, helper, at, depth + 1)
        assert kept.tie(name, helpers[at - 1] if at else None, helper, None) == [(name, at, at + 1)]
    for helper in helpers:
        assert kept.drop(helper) == []


def nearest(around, other, there):
    """The nearest one ahead of other in a round that is there, or None."""
    at = around.index(other)
    return next((near for near in (around[at + 1:] + around[:at])[::-1] if near in there), None)


def kept_with(web, hues):
    """A kept web with just these hues, right ones below five, made tie by tie."""
    kept = Kept(Web([]))
    for place in web.places():
        come_with_hue(kept, place, hues[place])
    for one, other in web.ties():
        now = kept.web_now()
        behind = nearest(web.round_of(one), other, now.round_of(one))
        after = nearest(web.round_of(other), one, now.round_of(other))
        assert kept.tie(one, behind, other, after) == []
    assert rounds(kept.web_now()) == rounds(web) and kept.hues_now() == hues
    return kept


def like_ones(shared):
    """Two places p and q of hue 2, each tied to four of the other hues, to some of them both, told by their hues."""
    hues = {"p": 2, "q": 2}
    around = {"p": [], "q": []}
    for hue in [0, 1, 3, 4]:
        letter = LETTERS[hue]
        names = [letter] if hue in shared else [letter + "p", letter + "q"]
        hues.update({name: hue for name in names})
        around["p"].append(names[0])
        around["q"].insert(0, names[-1])
        for name in names:
            around[name] = ["p", "q"] if hue in shared else [name[1]]
    return Web(list(around.items())), hues


def state(kept):
    return rounds(kept.web_now()), kept.hues_now()


def deed_by_chance(model, chance, names):
    """The name of a deed, and what is handed in: most are right, some are refused."""
    places = sorted(model.rounds)
    ties = [(one, other) for one in places for other in model.rounds[one]]
    word = chance.choice(["add", "drop", "untie", "untie", "tie", "tie", "tie", "near", "near", "near", "near", "near"])
    if word == "add" or not places:
        return "add", (chance.choice(names),)
    if word == "drop":
        return "drop", (chance.choice(places + names[:2]),)
    if word == "untie":
        return "untie", chance.choice(ties) if ties and chance.random() < 0.9 else tuple(chance.choices(names, k=2))
    if word == "tie" or not ties:
        one, other = chance.choices(places + names[:1], k=2)
        corners = [chance.choice((model.rounds.get(place) or [None]) + names[:chance.choice([0, 0, 1])])
                   for place in (one, other)]
        return "tie", (one, corners[0], other, corners[1])
    face = model.face_from(chance.choice(ties))
    (behind, one), (after, other) = chance.choices(face, k=2)
    return "tie", (one, behind, other, after)


class Case(unittest.TestCase):
    def assert_kept(self, kept, model):
        self.assertEqual(rounds(kept.web_now()), model.told_rounds())
        self.assertEqual(kept.hues_now(), model.hues)
        self.assertTrue(are_right(kept.web_now(), kept.hues_now()))
        self.assertLess(max(kept.hues_now().values(), default=0), 5)

    def assert_deed(self, kept, model, word, things):
        ahead = kept.web_now()
        ahead_rounds = rounds(ahead)
        try:
            told = getattr(model, word)(*things)
        except Refusal as error:
            wanted, *values = error.args
            with self.assertRaises(wanted) as caught:
                getattr(kept, word)(*things)
            self.assertIs(type(caught.exception), wanted)
            if values:
                error = caught.exception
                self.assertEqual([(error.many_places, error.many_ties, error.many_faces)], values)
            self.assert_kept(kept, model)
            return wanted
        self.assertEqual(getattr(kept, word)(*things), told, (word, things, ahead_rounds))
        self.assertEqual(rounds(ahead), ahead_rounds)
        self.assert_kept(kept, model)
        return word


class AtFirst(Case):
    def test_the_five_hues(self):
        for web in flat_webs() + chance_webs(10) + [read_web(SECOND), Web(beside(caps(), TRIANGLE))]:
            kept = Kept(web)
            self.assertEqual(kept.hues_now(), five_hues(web))
            self.assertEqual(rounds(kept.web_now()), rounds(web))
            self.assertIsInstance(kept.web_now(), Web)

    def test_no_places_and_one(self):
        self.assertEqual(Kept(Web([])).hues_now(), {})
        self.assertEqual(Kept(Web([("a", [])])).hues_now(), {"a": 0})


class LongRows(Case):
    def assert_long_row(self, web, many, chance):
        kept, model = Kept(web), Model(web)
        met = []
        names = (web.places() + ["n" + LETTERS[at] for at in range(16)])[:16] + ["Q"]
        for k in range(many):
            chance.shuffle(names)
            word, things = deed_by_chance(model, chance, names)
            met.append(self.assert_deed(kept, model, word, things))
        return met + model.ways

    def test_from_many_webs(self):
        chance = random.Random(20)
        met = []
        for web in flat_webs() + chance_webs(10) + [read_web(SECOND), read_web(THREE_HELD)]:
            if len(web.places()) <= 18:
                met += self.assert_long_row(web, 150, chance)
        for what in ["add", "drop", "tie", "untie", "one", NoName, Twice, NoPlace, NoCorner, NotFlat, NoTie]:
            self.assertGreater(met.count(what), 5, what)

    def test_a_row_of_a_thousand_deeds(self):
        chance = random.Random(21)
        for web in [Web([]), Web(caps())]:
            self.assert_long_row(web, 1000, chance)

    def test_ties_that_go_and_come_in_full_webs(self):
        chance = random.Random(22)
        ways = []
        for web in [Web(caps()), read_web(SECOND), read_web(THREE_HELD)] * 3:
            kept, model = Kept(web), Model(web)
            for k in range(150):
                ties = [(one, other) for one in sorted(model.rounds) for other in model.rounds[one]]
                self.assert_deed(kept, model, "untie", chance.choice(ties))
                for tries in range(30):
                    word, things = deed_by_chance(model, chance, ["q"])
                    if word == "tie" and self.assert_deed(kept, model, word, things) == "tie":
                        break
            ways += model.ways
        for way in ["one", "other", "chain"]:
            self.assertGreater(ways.count(way), 5, way)


class Comes(Case):
    def test_a_place_comes_and_goes(self):
        kept = Kept(Web(TRIANGLE))
        hues = kept.hues_now()
        self.assertEqual(kept.add("z"), [])
        self.assertEqual(kept.hues_now(), {**hues, "z": 0})
        self.assertEqual(rounds(kept.web_now()), TRIANGLE + [("z", [])])
        self.assertEqual(kept.drop("b"), [])
        self.assertEqual(rounds(kept.web_now()), [("a", ["c"]), ("c", ["a"]), ("z", [])])
        self.assertEqual(kept.hues_now(), {"a": hues["a"], "c": hues["c"], "z": 0})
        self.assertEqual(kept.add("b"), [])
        self.assertEqual(kept.hues_now()["b"], 0)
        for place in "abcz":
            self.assertEqual(kept.drop(place), [])
        self.assertEqual(state(kept), ([], {}))

    def test_a_place_goes_with_its_ties(self):
        kept = Kept(Web(STAR))
        hues = kept.hues_now()
        self.assertEqual(kept.drop("m"), [])
        self.assertEqual(rounds(kept.web_now()), [("a", []), ("b", []), ("c", [])])
        self.assertEqual(kept.hues_now(), {place: hues[place] for place in "abc"})

    def test_a_tie_goes(self):
        kept = Kept(Web(FOUR))
        hues = kept.hues_now()
        self.assertEqual(kept.untie("d", "b"), [])
        self.assertEqual(kept.web_now().round_of("b"), ["a", "c"])
        self.assertEqual(kept.web_now().round_of("d"), ["a", "c"])
        self.assertEqual(kept.untie("a", "b"), [])
        self.assertEqual(kept.hues_now(), hues)

    def test_a_tie_comes_between_unlike_ones(self):
        kept = Kept(Web(FOUR))
        hues = kept.hues_now()
        kept.untie("b", "d")
        self.assertEqual(kept.tie("b", "a", "d", "c"), [])
        self.assertEqual(rounds(kept.web_now()), rounds(Web(FOUR)))
        self.assertEqual(kept.hues_now(), hues)


class Corners(Case):
    def test_right_behind_the_one_that_tells_the_corner(self):
        for corner, around in [("a", ["a", "q", "b", "c"]), ("b", ["a", "b", "q", "c"]), ("c", ["a", "b", "c", "q"])]:
            kept = Kept(Web(STAR))
            kept.add("q")
            kept.tie("m", corner, "q", None)
            self.assertEqual(kept.web_now().round_of("m"), around)
            self.assertEqual(kept.web_now().round_of("q"), ["m"])
            kept = Kept(Web(STAR))
            kept.add("q")
            kept.tie("q", None, "m", corner)
            self.assertEqual(kept.web_now().round_of("m"), around)

    def test_between_two_places_without_ties(self):
        kept = Kept(Web([("a", []), ("b", [])]))
        self.assertEqual(kept.tie("b", None, "a", None), [("b", 0, 1)])
        self.assertEqual(rounds(kept.web_now()), [("a", ["b"]), ("b", ["a"])])

    def test_of_unlike_pieces_at_each_corner(self):
        web = Web(beside(FOUR, BOW))
        for one, other in [("a", "qa"), ("qb", "c")]:
            for behind, after in itertools.product(web.round_of(one), web.round_of(other)):
                kept, model = Kept(web), Model(web)
                self.assertEqual(self.assert_deed(kept, model, "tie", (one, behind, other, after)), "tie")
                self.assertEqual(len(pieces(kept.web_now())), 1)

    def test_each_two_corners_of_some_webs(self):
        for web in [Web(rows) for rows in [STAR, BOW, PIECES, grid(2, 4), caps(1, 4), beside(TRIANGLE, TRIANGLE)]]:
            steps = {}
            for face in faces(web):
                steps.update({step: face for step in pairs_round(face)})
            for one, other in itertools.permutations(web.places(), 2):
                if web.is_tied(one, other):
                    continue
                for behind, after in itertools.product(web.round_of(one) or [None], web.round_of(other) or [None]):
                    flat = other not in come_to(web, [one]) or steps[(behind, one)] == steps[(after, other)]
                    kept = Kept(web)
                    self.assertIs(refusal(kept.tie, one, behind, other, after), None if flat else NotFlat)


class FourWays(Case):
    def all_corners(self, web, one="p", other="q"):
        """All corners of two places at which a tie may come."""
        found = []
        for behind, after in itertools.product(web.round_of(one), web.round_of(other)):
            if refusal(Kept(web).tie, one, behind, other, after) is None:
                found.append((one, behind, other, after))
        self.assertTrue(found)
        return found

    def test_one_gets_the_least_hue_that_is_free_for_it(self):
        self.assertEqual(Kept(Web([("a", []), ("b", [])])).tie("a", None, "b", None), [("a", 0, 1)])
        for around, new in [("", 0), ("b", 0), ("a", 1), ("ab", 3), ("bd", 0), ("abd", 4), ("abe", 3)]:
            full = ["q" + letter for letter in "abde"]
            rows = {"p": list(around), "q": full}
            rows.update({letter: ["p"] for letter in around})
            rows.update({name: ["q"] for name in full})
            web = Web(list(rows.items()))
            hues = {name: 2 if name in "pq" else LETTERS.index(name[-1]) for name in rows}
            kept = kept_with(web, hues)
            self.assertEqual(kept.tie("p", around[0] if around else None, "q", "qa"), [("p", 2, new)])
            self.assertEqual(kept.hues_now(), {**hues, "p": new})
            # Handed in the other way round, q has no free hue, so p gets one as the other.
            kept = kept_with(web, hues)
            self.assertEqual(kept.tie("q", "qa", "p", around[0] if around else None), [("p", 2, new)])

    def test_one_goes_ahead_of_other(self):
        hues = {"p": 2, "q": 2, "a": 0, "b": 1}
        web = Web([("p", ["a"]), ("a", ["p"]), ("q", ["b"]), ("b", ["q"])])
        self.assertEqual(kept_with(web, hues).tie("p", "a", "q", "b"), [("p", 2, 1)])
        self.assertEqual(kept_with(web, hues).tie("q", "b", "p", "a"), [("q", 2, 0)])

    def test_the_first_hue_whose_chain_does_not_have_other(self):
        for many in range(4):
            for shared in itertools.combinations([0, 1, 3, 4], many):
                web, hues = like_ones(shared)
                first = [hue for hue in [0, 1, 3, 4] if hue not in shared][0]
                for one, behind, other, after in self.all_corners(web):
                    kept = kept_with(web, hues)
                    beside_p = LETTERS[first] + "p"
                    told = kept.tie(one, behind, other, after)
                    self.assertEqual(told, [(beside_p, first, 2), ("p", 2, first)])
                    self.assertEqual(kept.hues_now(), {**hues, beside_p: 2, "p": first})
                    kept = kept_with(web, hues)
                    beside_q = LETTERS[first] + "q"
                    told = kept.tie(other, after, one, behind)
                    self.assertEqual(told, [(beside_q, first, 2), ("q", 2, first)])

    def test_a_long_chain(self):
        # From p over ap, r and s, or over them and t to q.
        for far in [False, True]:
            web, hues = like_ones([1, 3])
            around = dict(rounds(web))
            around["ap"] = ["p", "r"]
            around["r"], hues["r"] = ["ap", "s"], 2
            around["s"], hues["s"] = ["r"], 0
            if far:
                around["s"] = ["r", "t"]
                around["t"], hues["t"] = ["s", "aq"], 2
                around["aq"] = ["q", "t"]
            web = Web(list(around.items()))
            for one, behind, other, after in self.all_corners(web):
                kept = kept_with(web, hues)
                told = kept.tie(one, behind, other, after)
                if far:
                    self.assertEqual(told, [("ep", 4, 2), ("p", 2, 4)])
                else:
                    self.assertEqual(told, [("ap", 0, 2), ("p", 2, 0), ("r", 2, 0), ("s", 0, 2)])

    def test_anew(self):
        web, hues = like_ones([0, 1, 3, 4])
        for one, behind, other, after in self.all_corners(web):
            for things in [(one, behind, other, after), (other, after, one, behind)]:
                kept = kept_with(web, hues)
                told = kept.tie(*things)
                new = five_hues(kept.web_now())
                self.assertEqual(kept.hues_now(), new)
                self.assertTrue(are_right(kept.web_now(), new))
                others = sorted(name for name in hues if hues[name] != new[name])
                self.assertEqual(told, [(name, hues[name], new[name]) for name in others])
                self.assertGreater(len(told), 0)

    def test_each_way_in_webs_with_other_hues(self):
        chance = random.Random(23)
        ways = []
        for k in range(60):
            web, hues = like_ones(chance.choice([[], [0], [1, 3], [0, 3, 4], [0, 1, 3], [0, 1, 3, 4]]))
            moved = dict(zip(range(5), chance.sample(range(5), 5)))
            hues = {place: moved[hues[place]] for place in hues}
            less = chance.choice([None] + [place for place in web.places() if place not in "pq"])
            kept = kept_with(web, hues)
            model = Model(web)
            model.hues = hues
            if less:
                self.assert_deed(kept, model, "drop", (less,))
            one, other = chance.choice([("p", "q"), ("q", "p")])
            for tries in range(20):
                corners = [chance.choice(model.rounds[place]) for place in (one, other)]
                if self.assert_deed(kept, model, "tie", (one, corners[0], other, corners[1])) == "tie":
                    break
            ways += model.ways
        self.assertEqual(set(ways), {"one", "other", "chain", "anew"})


class Refused(Case):
    def assert_refused(self, kept, wanted, word, *things):
        ahead = state(kept)
        self.assertIs(refusal(getattr(kept, word), *things), wanted, (word, things))
        self.assertEqual(state(kept), ahead)

    def test_add(self):
        for web in [Web([]), Web(PIECES)]:
            kept = Kept(web)
            for thing in NO_NAMES:
                self.assert_refused(kept, NoName, "add", thing)
            for place in web.places():
                self.assert_refused(kept, Twice, "add", place)
        kept.add("new")
        self.assert_refused(kept, Twice, "add", "new")
        kept.drop("new")
        self.assertIsNone(refusal(kept.add, "new"))

    def test_drop(self):
        kept = Kept(Web(PIECES))
        for name in ["q", "aa", "abcdefgh"]:
            self.assert_refused(kept, NoPlace, "drop", name)
        self.assert_refused(Kept(Web([])), NoPlace, "drop", "a")
        kept.drop("z")
        self.assert_refused(kept, NoPlace, "drop", "z")

    def test_untie(self):
        kept = Kept(Web(PIECES))
        for one, other in [("q", "a"), ("a", "q"), ("q", "q"), ("q", "r"), ("b", "q"), ("q", "b")]:
            self.assert_refused(kept, NoPlace, "untie", one, other)
        for one, other in [("a", "z"), ("a", "a"), ("b", "b"), ("b", "c"), ("z", "b")]:
            self.assert_refused(kept, NoTie, "untie", one, other)
        kept.untie("x", "b")
        self.assert_refused(kept, NoTie, "untie", "b", "x")
        self.assert_refused(kept, NoTie, "untie", "x", "b")

    def test_tie_no_place(self):
        kept = Kept(Web(PIECES))
        for things in [
            ("q", "a", "b", "x"), ("b", "x", "q", "b"), ("q", None, "q", None), ("q", None, "a", None),
            ("a", None, "q", None), ("a", "wrong", "q", None), ("q", "wrong", "a", "wrong"),
        ]:
            self.assert_refused(kept, NoPlace, "tie", *things)

    def test_tie_twice(self):
        kept = Kept(Web(PIECES))
        for things in [
            ("b", "x", "b", "x"), ("a", None, "a", None), ("b", "x", "y", "x"), ("y", "b", "b", "y"),
            ("a", "b", "a", "b"), ("b", None, "b", None), ("b", None, "x", None), ("c", "q", "d", "q"),
            ("b", "q", "b", "q"),
        ]:
            self.assert_refused(kept, Twice, "tie", *things)

    def test_tie_no_corner(self):
        kept = Kept(Web(beside(PIECES, FOUR)))
        for things in [
            # None where the place has ties, a name where it has none, one that is not in its round.
            ("b", None, "a", None), ("a", None, "b", None), ("a", "b", "z", None), ("a", None, "z", "b"),
            ("a", "a", "z", None), ("a", "z", "z", None), ("a", None, "z", "a"),
            ("b", "c", "c", "d"), ("b", "b", "c", "d"), ("c", "d", "b", "c"), ("c", "d", "b", "b"),
            ("b", "q", "a", None), ("a", None, "b", "q"), ("b", "x", "c", None), ("b", None, "c", None),
            ("b", "x", "c", "b"), ("b", "x", "c", "c"),
        ]:
            self.assert_refused(kept, NoCorner, "tie", *things)

    def test_no_corner_by_anything(self):
        kept = Kept(Web(PIECES))
        for thing in [thing for thing in NO_NAMES if thing is not None]:
            self.assert_refused(kept, NoCorner, "tie", "a", thing, "z", None)
            self.assert_refused(kept, NoCorner, "tie", "a", None, "z", thing)
            self.assert_refused(kept, NoCorner, "tie", "b", thing, "c", "d")
            self.assert_refused(kept, NoCorner, "tie", "b", "x", "c", thing)

    def test_no_corner_goes_ahead_of_not_flat(self):
        kept = Kept(Web(caps()))
        self.assert_refused(kept, NoCorner, "tie", "north", "south", "south", "ba")
        self.assert_refused(kept, NoCorner, "tie", "north", "aa", "south", None)
        self.assert_refused(kept, NotFlat, "tie", "north", "aa", "south", "ba")

    def test_tie_not_flat_and_its_numbers(self):
        kept = Kept(Web([("a", [])] + caps() + [("z", [])]))
        ahead = state(kept)
        with self.assertRaises(NotFlat) as caught:
            kept.tie("north", "aa", "south", "ba")
        error = caught.exception
        # Twelve places, thirty ties and the new one; two faces of the twenty have become one.
        self.assertEqual((error.many_places, error.many_ties, error.many_faces), (12, 31, 19))
        self.assertEqual(state(kept), ahead)


class Unchanged(Case):
    def test_a_web_that_was_told_stays(self):
        web = Web(BOW)
        kept = Kept(web)
        told = kept.web_now()
        kept.add("q")
        kept.untie("a", "b")
        kept.drop("e")
        self.assertEqual(rounds(told), BOW)
        self.assertEqual(rounds(web), BOW)
        middle = kept.web_now()
        ahead = rounds(middle)
        kept.tie("q", None, "b", "c")
        self.assertEqual(rounds(middle), ahead)

    def test_two_kept_of_one_web(self):
        web = Web(caps())
        first, second = Kept(web), Kept(web)
        ahead = state(second)
        first.add("q")
        first.drop("aa")
        first.untie("north", "ab")
        self.assertEqual(state(second), ahead)
        second.drop("north")
        self.assertIn("north", first.web_now().places())

    def test_told_dicts_and_lists_are_the_askers_own(self):
        kept = Kept(Web([("a", []), ("b", []), ("c", [])]))
        hues = kept.hues_now()
        hues["a"] = 4
        hues.clear()
        kept.web_now().places().clear()
        self.assertEqual(kept.hues_now(), {"a": 0, "b": 0, "c": 0})
        told = kept.tie("a", None, "b", None)
        self.assertEqual(told, [("a", 0, 1)])
        told.clear()
        hues = kept.hues_now()
        self.assertEqual(hues, {"a": 1, "b": 0, "c": 0})
        kept.tie("c", None, "b", "a")
        self.assertEqual(hues, {"a": 1, "b": 0, "c": 0})

    def test_rows_changed_behind_the_call(self):
        rows = [("a", ["b"]), ("b", ["a"]), ("c", [])]
        kept = Kept(Web(rows))
        rows[0][1].clear()
        rows.clear()
        self.assertEqual(rounds(kept.web_now()), [("a", ["b"]), ("b", ["a"]), ("c", [])])

    def test_the_same_deeds_of_another_web_with_the_same_rounds(self):
        chance = random.Random(24)
        for web in [Web(caps()), read_web(SECOND), Web(BOW)]:
            first, second, model = Kept(web), Kept(same_rounds(web)), Model(web)
            for k in range(100):
                word, things = deed_by_chance(model, chance, ["na", "nb", "nc"])
                wanted = refusal(getattr(first, word), *things)
                self.assertIs(refusal(getattr(second, word), *things), wanted)
                if wanted is None:
                    getattr(model, word)(*things)
                self.assertEqual(state(first), state(second))


if __name__ == "__main__":
    unittest.main()
