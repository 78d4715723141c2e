"""Promise 16: hues from lists, or a choice, and the reader of choices."""

import copy
import random
import unittest

from fivehues.choices import from_lists, is_read, three_hues
from fivehues.errors import NoPlace, TooMany
from fivehues.images import mirrored, renamed
from fivehues.webs import Web
from tests.helpers import BOW, FOUR, PIECES, STAR, TRIANGLE, are_right, beside, caps, chance_webs, grid, mixed
from tests.helpers import refusal, ring_rows, rounds, same_rounds, thinned

# The places a and tied, tied to one another.
PAIR = [("a", ["tied"]), ("tied", ["a"])]
PAIR_LISTS = {"a": [5], "tied": [5]}
PAIR_CHOICES = [("a", [(5, ("tied", [(5, ("tied", "a"))]))]), ("tied", [(5, ("a", [(5, ("tied", "tied"))]))])]

# The triangle from the lists 0, 1 of each place.
TWO = {"a": [0, 1], "b": [0, 1], "c": [0, 1]}
C_OF_A = ("c", [(0, ("tied", "a")), (1, ("tied", "b"))])
C_OF_B = ("c", [(0, ("tied", "b")), (1, ("tied", "a"))])
B_FIRST = ("b", [(0, ("tied", "a")), (1, C_OF_A)])
B_SECOND = ("b", [(0, C_OF_B), (1, ("tied", "a"))])
WHOLE = ("a", [(0, B_FIRST), (1, B_SECOND)])


def reads(web, lists, choice, chosen=()):
    """Whether a choice is read where some places are chosen, by the document's words."""
    place, ways = choice
    if place not in web.places() or place in dict(chosen) or [way[0] for way in ways] != lists[place]:
        return False
    for hue, (first, second) in ways:
        if isinstance(second, list):
            if not reads(web, lists, (first, second), list(chosen) + [(place, hue)]):
                return False
        elif first != "tied" or second not in web.round_of(place) or (second, hue) not in chosen:
            return False
    return True


def is_there(web, lists, hues=None):
    """Whether right hues from lists are there, gone through by places with few hues left."""
    hues = hues or {}
    left = []
    for place in [place for place in web.places() if place not in hues]:
        around = [hues.get(other) for other in web.round_of(place)]
        left.append(([hue for hue in lists[place] if hue not in around], place))
    if not left:
        return True
    free, place = min(left, key=lambda pair: len(pair[0]))
    return any(is_there(web, lists, {**hues, place: hue}) for hue in free)


def kinds_are_told(choice):
    """Whether a choice is made of tuples, lists, names and whole numbers, as told."""
    place, ways = choice
    told = isinstance(choice, tuple) and isinstance(place, str) and isinstance(ways, list)
    for way in ways:
        hue, why = way
        told = told and isinstance(way, tuple) and type(hue) is int and isinstance(why, tuple) and len(why) == 2
        if isinstance(why[1], list):
            told = told and kinds_are_told(why)
        else:
            told = told and why[0] == "tied" and isinstance(why[1], str)
    return told


def many_choices(choice):
    """How many choices stand in a choice, itself too."""
    return 1 + sum(many_choices(why) for hue, why in choice[1] if isinstance(why[1], list))


def spoil(told):
    """Change hues or a choice, and all that stands in it, as an asker may."""
    if isinstance(told, dict):
        told.clear()
        return
    for hue, why in told[1]:
        if isinstance(why[1], list):
            spoil(why)
    told[1].clear()


def chance_lists(web, chance):
    """A list for each place, of none to six hues, as chance has it."""
    hues = chance.choice([range(2), range(3), range(4), range(6), [0, 7, 10 ** 9, 10 ** 9 - 1, 3]])
    few = chance.choice([(1, 2), (2,), (2, 3), (3,), (0, 2, 3, 3, 3, 3), (3, 4), (1, 2, 6)])
    return {place: chance.sample(hues, min(chance.choice(few), len(hues))) for place in web.places()}


def small_webs():
    """Webs of twelve places at most."""
    samples = [[], [("a", [])], PAIR, TRIANGLE, FOUR, BOW, STAR, PIECES, grid(3, 4), grid(1, 7), grid(2, 2), caps()]
    samples += [caps(1, 3), caps(1, 5), caps(2, 4), ring_rows(5), ring_rows(12), beside(FOUR, caps(1, 4))]
    samples += [beside(ring_rows(5), ring_rows(6)), beside(beside(FOUR, TRIANGLE), grid(1, 3), "z")]
    return [Web(rows) for rows in samples] + chance_webs(8, 2, 4) + chance_webs(8, 2, 5)


class Told(unittest.TestCase):
    def assert_told(self, web, lists):
        told = from_lists(web, lists)
        self.assertIsInstance(told, tuple)
        kind, what = told
        self.assertEqual(kind, "hues" if is_there(web, lists) else "choice")
        if kind == "hues":
            self.assertTrue(are_right(web, what))
            self.assertEqual([place for place in what if what[place] not in lists[place]], [])
        else:
            self.assert_choice(web, lists, what)
        return kind

    def assert_choice(self, web, lists, choice):
        self.assertTrue(kinds_are_told(choice))
        self.assertTrue(reads(web, lists, choice))
        self.assertIs(is_read(web, lists, choice), True)


class FromLists(Told):
    def test_no_places_and_one(self):
        self.assertEqual(from_lists(Web([]), {}), ("hues", {}))
        self.assertEqual(from_lists(Web([("a", [])]), {"a": [10 ** 9]}), ("hues", {"a": 10 ** 9}))
        self.assertEqual(from_lists(Web([("a", [])]), {"a": []}), ("choice", ("a", [])))

    def test_small_ones_whole(self):
        web = Web(PAIR)
        self.assertEqual(from_lists(web, {"a": [7], "tied": [7, 3]}), ("hues", {"a": 7, "tied": 3}))
        kind, choice = from_lists(web, PAIR_LISTS)
        self.assertEqual(kind, "choice")
        self.assertIn(choice, PAIR_CHOICES)
        self.assertEqual(from_lists(web, {"a": [0, 1, 2], "tied": []}), ("choice", ("tied", [])))

    def test_a_list_of_no_hue(self):
        for web in small_webs():
            for place in web.places():
                lists = {other: [0, 1, 2, 3, 4, 5] for other in web.places()}
                lists[place] = []
                self.assertEqual(from_lists(web, lists), ("choice", (place, [])))

    def test_lists_of_one_hue(self):
        for web in small_webs():
            own = {place: [at] for at, place in enumerate(web.places())}
            self.assertEqual(from_lists(web, own), ("hues", {place: own[place][0] for place in own}))
            same = {place: [4] for place in web.places()}
            self.assertEqual(self.assert_told(web, same), "choice" if web.ties() else "hues")

    def test_lists_of_many_hues(self):
        for web in small_webs():
            lists = {place: list(range(59, -1, -1)) for place in web.places()}
            self.assertEqual(self.assert_told(web, lists), "hues")

    def test_the_ways_stand_in_the_order_of_the_list(self):
        for order in [[0, 1, 2], [2, 0, 1], [9, 10 ** 9, 8]]:
            web = Web(FOUR)
            kind, choice = from_lists(web, {place: list(order) for place in "abcd"})
            self.assertEqual(kind, "choice")
            self.assertEqual([hue for hue, why in choice[1]], order)
            self.assert_choice(web, {place: order for place in "abcd"}, choice)

    def test_pieces_without_bearing_make_no_choices(self):
        # Four places that can't have three hues, named behind eight others in a row with three hues of their own.
        row = [(place, list(around)) for place, around in grid(1, 8)]
        rows = beside(row, FOUR, "z")
        for tied in [False, True]:
            if tied:
                rows = [(place, around + {"ah": ["za"], "za": ["ah"]}.get(place, [])) for place, around in rows]
            web = Web(rows)
            lists = {place: [100, 101, 102] if place[0] == "z" else [10 * at, 10 * at + 1, 10 * at + 2]
                     for at, place in enumerate(web.places())}
            kind, choice = from_lists(web, lists)
            self.assertEqual(kind, "choice")
            self.assertLess(many_choices(choice), 40)
            self.assert_choice(web, lists, choice)

    def test_few_choices_come(self):
        # From the second place on each one has one hue left: so there are two ways round the ring, and no more.
        chance = random.Random(6)
        for many in [3, 5, 7, 9, 11]:
            for rows in [ring_rows(many), mixed(ring_rows(many), chance), mixed(ring_rows(many), chance)]:
                kind, choice = from_lists(Web(rows), {place: [0, 1] for place, around in rows})
                self.assertEqual(kind, "choice")
                self.assertEqual(many_choices(choice), 1 + 2 * (many - 1))
        # Gone through in the order of their names, these come to more than a hundred.
        for k in range(20):
            kind, choice = three_hues(Web(mixed(caps(), chance)))
            self.assertEqual(kind, "choice")
            self.assertLess(many_choices(choice), 40)

    def test_by_chance(self):
        chance = random.Random(16)
        met = []
        for web in small_webs():
            for k in range(40):
                met.append(self.assert_told(web, chance_lists(web, chance)))
        self.assertGreater(min(met.count("hues"), met.count("choice")), 300)

    def test_twelve_places_of_several_pieces_by_chance(self):
        chance = random.Random(26)
        for k in range(60):
            rows = beside(beside(thinned(caps(1, 3), chance), thinned(FOUR, chance)), TRIANGLE, "z")
            web = Web(rows)
            self.assert_told(web, chance_lists(web, chance))


class ThreeHues(Told):
    def test_each_web(self):
        met = []
        for web in small_webs():
            lists = {place: [0, 1, 2] for place in web.places()}
            told = three_hues(web)
            self.assertIsInstance(told, tuple)
            self.assertEqual(told[0], "hues" if is_there(web, lists) else "choice")
            met.append(told[0])
            if told[0] == "hues":
                self.assertTrue(are_right(web, told[1]))
                self.assertLessEqual(set(told[1].values()), {0, 1, 2})
            else:
                self.assert_choice(web, lists, told[1])
        self.assertEqual(set(met), {"hues", "choice"})

    def test_four_places_each_tied_to_each(self):
        kind, choice = three_hues(Web(FOUR))
        self.assertEqual(kind, "choice")
        self.assertEqual([hue for hue, why in choice[1]], [0, 1, 2])
        self.assert_choice(Web(FOUR), {place: [0, 1, 2] for place in "abcd"}, choice)

    def test_no_places(self):
        self.assertEqual(three_hues(Web([])), ("hues", {}))

    def test_too_many(self):
        self.assertIsNone(refusal(three_hues, Web(ring_rows(12))))
        for many in [13, 14, 40]:
            self.assertIs(refusal(three_hues, Web(ring_rows(many))), TooMany)


class Refused(unittest.TestCase):
    def test_a_key_is_no_place_or_a_place_is_no_key(self):
        for rows in [[], TRIANGLE, PIECES, ring_rows(12), ring_rows(13), grid()]:
            web = Web(rows)
            lists = {place: [0, 1, 2] for place in web.places()}
            self.assertIs(refusal(from_lists, web, {**lists, "strange": [0]}), NoPlace)
            for place in web.places():
                less = {other: lists[other] for other in lists if other != place}
                self.assertIs(refusal(from_lists, web, less), NoPlace)
                self.assertIs(refusal(from_lists, web, {**less, "strange": [0]}), NoPlace)

    def test_too_many(self):
        for many in [13, 14, 40]:
            web = Web(ring_rows(many))
            for lists in [{place: [0, 1, 2] for place in web.places()}, {place: [] for place in web.places()}]:
                self.assertIs(refusal(from_lists, web, lists), TooMany)
        web = Web([(place, []) for place in "abcdefghijklm"])
        self.assertIs(refusal(from_lists, web, {place: [0] for place in web.places()}), TooMany)


class IsRead(unittest.TestCase):
    def assert_read(self, choice, rows=tuple(TRIANGLE), lists=TWO):
        self.assertIs(is_read(Web(list(rows)), lists, choice), True)

    def assert_not_read(self, choice, rows=tuple(TRIANGLE), lists=TWO):
        self.assertIs(is_read(Web(list(rows)), lists, choice), False)

    def test_as_told(self):
        self.assert_read(WHOLE)
        self.assert_read(("a", []), lists={"a": [], "b": [0], "c": [0]})
        self.assert_not_read(("b", []), lists={"a": [], "b": [0], "c": [0]})

    def test_also_of_a_web_of_more_than_twelve_places(self):
        web = Web(beside(grid(3, 6), [("a", [])]))
        lists = {place: [0, 1] for place in web.places()}
        self.assertIs(is_read(web, lists, ("aa", [(0, ("tied", "ab")), (1, ("tied", "ab"))])), False)
        lists["qa"] = []
        self.assertIs(is_read(web, lists, ("qa", [])), True)

    def test_a_place_that_is_none_of_the_web(self):
        self.assert_not_read(("q", []))
        self.assert_not_read(("q", WHOLE[1]))
        self.assert_not_read(("a", [(0, ("q", [])), (1, B_SECOND)]))

    def test_a_place_that_is_chosen_already(self):
        self.assert_not_read(("a", [(0, ("a", B_FIRST[1])), (1, B_SECOND)]))
        self.assert_not_read(("a", [(0, WHOLE), (1, B_SECOND)]))
        again = ("b", [(0, ("tied", "a")), (1, ("a", [(0, ("tied", "b")), (1, ("tied", "b"))]))])
        self.assert_not_read(("a", [(0, again), (1, B_SECOND)]))

    def test_a_way_too_few_or_too_many(self):
        self.assert_not_read(("a", []))
        self.assert_not_read(("a", WHOLE[1][:1]))
        self.assert_not_read(("a", WHOLE[1][1:]))
        self.assert_not_read(("a", [(0, ("b", B_FIRST[1][1:])), (1, B_SECOND)]))
        self.assert_not_read(("a", [(0, ("b", B_FIRST[1][:1])), (1, B_SECOND)]))
        self.assert_not_read(("a", WHOLE[1] + [(2, B_SECOND)]))
        self.assert_not_read(("a", [(0, B_FIRST), (1, ("b", B_SECOND[1] + [(2, ("tied", "a"))]))]))

    def test_a_way_twice_or_in_another_order(self):
        self.assert_not_read(("a", WHOLE[1] + WHOLE[1][1:]))
        self.assert_not_read(("a", WHOLE[1][:1] + WHOLE[1]))
        self.assert_not_read(("a", WHOLE[1][::-1]))
        self.assert_not_read(("a", [(0, ("b", B_FIRST[1][::-1])), (1, B_SECOND)]))
        self.assert_read(WHOLE, lists={**TWO})
        self.assert_not_read(WHOLE, lists={**TWO, "a": [1, 0]})
        self.assert_not_read(WHOLE, lists={**TWO, "c": [1, 0]})

    def test_a_tie_to_one_that_is_not_tied(self):
        # In a row a, b, c the ends are not tied.
        row = [("a", ["b"]), ("b", ["a", "c"]), ("c", ["b"])]
        lists = {"a": [0], "b": [1, 0], "c": [0]}
        self.assert_not_read(("a", [(0, ("c", [(0, ("tied", "a"))]))]), row, lists)
        self.assert_not_read(("a", [(0, ("c", [(0, ("tied", "q"))]))]), row, lists)
        self.assert_not_read(("a", [(0, ("c", [(0, ("tied", "c"))]))]), row, lists)
        self.assert_not_read(("a", [(0, ("tied", "a"))]), row, lists)

    def test_a_tie_to_one_that_is_not_chosen(self):
        self.assert_not_read(("a", [(0, ("tied", "b")), (1, ("tied", "b"))]))
        self.assert_not_read(("a", [(0, ("b", [(0, ("tied", "a")), (1, ("tied", "c"))])), (1, B_SECOND)]))

    def test_a_tie_to_one_that_is_chosen_with_another_hue(self):
        self.assert_not_read(("a", [(0, ("b", [(0, ("tied", "a")), (1, ("tied", "a"))])), (1, B_SECOND)]))
        self.assert_not_read(("a", [(0, ("b", [(0, ("tied", "a")), (1, C_OF_B)])), (1, B_SECOND)]))
        self.assert_not_read(("a", [(0, B_SECOND), (1, B_FIRST)]))

    def test_a_choice_within_a_choice_that_is_not_read(self):
        for wrong in [("c", []), ("c", C_OF_A[1][:1]), ("c", C_OF_B[1]), ("a", C_OF_A[1]), ("q", C_OF_A[1])]:
            self.assert_not_read(("a", [(0, ("b", [(0, ("tied", "a")), (1, wrong)])), (1, B_SECOND)]))
        # What a way chose is not chosen in the next way.
        self.assert_not_read(("a", [(0, B_FIRST), (1, ("b", [(0, C_OF_B), (1, ("tied", "c"))]))]))

    def test_a_place_called_tied(self):
        web = Web(PAIR)
        for choice in PAIR_CHOICES:
            self.assertIs(is_read(web, PAIR_LISTS, choice), True)
        bad = [
            ("a", [(5, ("tied", "a"))]),
            ("a", [(5, ("tied", "tied"))]),
            ("tied", [(5, ("tied", "a"))]),
            ("a", [(5, ("tied", []))]),
            ("a", [(5, ("tied", [(5, ("tied", "tied"))]))]),
            ("tied", [(5, ("tied", [(5, ("tied", "tied"))]))]),
            ("tied", "a"),
        ]
        for choice in bad:
            self.assertIs(is_read(web, PAIR_LISTS, choice), False)

    def test_another_word_than_tied(self):
        self.assert_not_read(("a", [(0, ("b", [(0, ("a", "a")), (1, C_OF_A)])), (1, B_SECOND)]))
        self.assert_not_read(("a", [(0, ("b", [(0, ("bound", "a")), (1, C_OF_A)])), (1, B_SECOND)]))

    def test_lists_for_tuples_and_tuples_of_another_number(self):
        for why in [(), ("tied",), ("tied", "a", "a"), ("tied", "a", [])]:
            self.assert_not_read(("a", [(0, ("b", [(0, why), (1, C_OF_A)])), (1, B_SECOND)]))
        for ways in [[[0, B_FIRST], (1, B_SECOND)], [(0, list(B_FIRST)), (1, B_SECOND)], tuple(WHOLE[1])]:
            self.assert_not_read(("a", ways))
        self.assert_not_read(("a", ()), lists={**TWO, "a": []})
        self.assert_not_read(list(WHOLE))
        for ways in [[(0,), (1, B_SECOND)], [(0, B_FIRST, 1), (1, B_SECOND)]]:
            self.assert_not_read(("a", ways))
        for choice in [(), ("a",), WHOLE + ("a",)]:
            self.assert_not_read(choice)

    def test_told_choices_of_other_lists_by_chance(self):
        chance = random.Random(36)
        met = []
        for web in small_webs():
            for k in range(30):
                lists = chance_lists(web, chance)
                kind, choice = from_lists(web, lists)
                if kind == "choice":
                    others = [copy.deepcopy(lists) for at in range(3)]
                    for other in others[1:]:
                        place = chance.choice(web.places())
                        other[place] = chance_lists(web, chance)[place]
                    for other in others:
                        self.assertIs(is_read(web, other, choice), reads(web, other, choice))
                        met.append(reads(web, other, choice))
        self.assertGreater(min(met.count(True), met.count(False)), 200)

    def test_choices_spoiled_in_one_thing(self):
        chance = random.Random(46)
        met = []
        for rows in [FOUR, caps(1, 4), caps(1, 3), ring_rows(5)]:
            web = Web(rows)
            lists = {place: [0, 1] if rows == ring_rows(5) else [0, 1, 2] for place in web.places()}
            kind, choice = from_lists(web, lists)
            if kind == "choice":
                for k in range(300):
                    other = changed_once(choice, web.places() + ["tied"], chance)
                    self.assertIs(is_read(web, lists, other), reads(web, lists, other))
                    met.append(reads(web, lists, other))
        self.assertGreater(met.count(False), 300)


def changed_once(choice, names, chance):
    """The choice with one thing in it changed, as chance has it."""
    place, ways = choice
    deed = chance.randrange(6)
    if deed == 0:
        return (chance.choice(names), ways)
    if deed == 1 or not ways:
        return (place, ways[1:])
    at = chance.randrange(len(ways))
    hue, why = ways[at]
    if deed == 2:
        return (place, ways[:at] + [(hue + 1, why)] + ways[at + 1:])
    if deed == 3 or not isinstance(why[1], list):
        return (place, ways[:at] + [(hue, ("tied", chance.choice(names)))] + ways[at + 1:])
    return (place, ways[:at] + [(hue, changed_once(why, names, chance))] + ways[at + 1:])


class Images(unittest.TestCase):
    def test_mirrored_and_renamed(self):
        chance = random.Random(56)
        for web in small_webs():
            kind, told = three_hues(web)
            self.assertEqual(three_hues(mirrored(web))[0], kind)
            self.assertEqual(three_hues(Web(mixed(rounds(web), chance)))[0], kind)
            lists = chance_lists(web, chance)
            names = dict(zip(web.places(), chance.sample(["x" + place[:7] for place in web.places()], len(lists))))
            moved = {names[place]: lists[place] for place in lists}
            self.assertEqual(from_lists(renamed(web, names), moved)[0], from_lists(web, lists)[0])
            self.assertEqual(from_lists(mirrored(web), lists)[0], from_lists(web, lists)[0])
            if kind == "choice":
                three = {place: [0, 1, 2] for place in web.places()}
                self.assertIs(is_read(mirrored(web), three, told), True)


class Unchanged(unittest.TestCase):
    def test_asked_again_or_of_another_web_with_the_same_rounds(self):
        chance = random.Random(66)
        for web in small_webs():
            for k in range(5):
                ahead = rounds(web)
                lists = chance_lists(web, chance)
                lists_ahead = copy.deepcopy(lists)
                told = from_lists(web, lists)
                kept = copy.deepcopy(told)
                if told[0] == "choice":
                    self.assertIs(is_read(web, lists, told[1]), True)
                    self.assertEqual(told, kept)
                self.assertEqual(lists, lists_ahead)
                spoil(told[1])
                self.assertEqual(lists, lists_ahead)
                self.assertEqual(from_lists(web, lists), kept)
                turned = {place: list(lists[place]) for place in web.places()[::-1]}
                self.assertEqual(from_lists(same_rounds(web), turned), kept)
                self.assertEqual(rounds(web), ahead)

    def test_lists_changed_behind_the_call(self):
        web = Web(FOUR)
        lists = {place: [0, 1, 2] for place in "abcd"}
        told = from_lists(web, lists)
        kept = copy.deepcopy(told)
        for place in lists:
            lists[place].clear()
        lists.clear()
        self.assertEqual(told, kept)

    def test_three_hues_again(self):
        for web in small_webs():
            told = three_hues(web)
            kept = copy.deepcopy(told)
            spoil(told[1])
            self.assertEqual(three_hues(web), kept)
            self.assertEqual(three_hues(same_rounds(web)), kept)


if __name__ == "__main__":
    unittest.main()
