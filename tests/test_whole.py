"""Promises 1, 2 and 3 over the whole program."""

import copy
import random
import unittest

from fivehues.beforehand import completed
from fivehues.chains import chain, exchanged
from fivehues.choices import from_lists, is_read, three_hues
from fivehues.facehues import face_hues
from fivehues.faces import faces, pieces
from fivehues.fives import five_hues
from fivehues.fourhues import four_paper
from fivehues.hues import fault
from fivehues.images import mirrored, renamed
from fivehues.keeping import Kept
from fivehues.otherwebs import other_web
from fivehues.papers import five_paper
from fivehues.partings import lots, parting
from fivehues.readers import read_paper
from fivehues.sixhues import order, six_hues
from fivehues.trees import ring_of, tree
from fivehues.twohues import two_hues
from fivehues.webs import Web
from fivehues.webtexts import read_web, web_text
from tests.helpers import SECOND, are_right, beside, caps, chance_webs, flat_webs, grid, is_ring, mixed, refusal
from tests.helpers import ring_rows, rounds, same_rounds
from tests.test_keeping import Model, Refusal, deed_by_chance


def answer(call, *things):
    """What a call tells, or the refusal that it meets."""
    return refusal(call, *things) or call(*things)


def kind_of(told):
    """The word that an answer begins with, or the refusal."""
    return told[0] if isinstance(told, tuple) else told


def answers(web):
    """What the whole program tells of a web, by the names of its functions."""
    return {
        "text": web_text(web),
        "faces": faces(web),
        "pieces": pieces(web),
        "order": order(web),
        "six": six_hues(web),
        "five": five_hues(web),
        "paper": five_paper(web),
        "four": four_paper(web, 60),
        "two": two_hues(web),
        "three": answer(three_hues, web),
        "completed": answer(completed, web, {place: 1 for place in web.places()[:1]}, 3),
        "tree": [tree(web, place) for place in web.places()],
        "lots": [lots(web, ring) for ring in rings_of(web)],
        "parting": [answer(parting, web, place) for place in web.places()],
        "other": refusal(other_web, web) or rounds(other_web(web)),
        "face hues": answer(face_hues, web),
        "mirrored": rounds(mirrored(web)),
        "kept": Kept(web).hues_now(),
    }


def rings_of(web):
    """The rings that ties make with the tree of the least place."""
    root = web.places()[:1]
    return [ring_of(web, *root, *tie) for tie in web.ties() if refusal(ring_of, web, *root, *tie) is None]


def spoil(thing):
    """Change a told thing, and all lists and dicts in it, as an asker may."""
    if isinstance(thing, (list, tuple)):
        for inner in thing:
            spoil(inner)
    if isinstance(thing, dict):
        for inner in thing.values():
            spoil(inner)
    if isinstance(thing, (list, dict)):
        thing.clear()


def some_webs():
    webs = flat_webs() + chance_webs(12) + chance_webs(6, 2, 4) + [read_web(SECOND), Web(ring_rows(9))]
    webs += [Web(beside(grid(2, 3), caps(1, 4)))]
    return [web for web in webs if len(web.places()) <= 18] + [Web(grid())]


class SameAgain(unittest.TestCase):
    def test_of_a_web_made_anew_and_when_what_was_told_is_changed(self):
        for web in some_webs():
            ahead = rounds(web)
            told = answers(web)
            kept = copy.deepcopy(told)
            spoil(told)
            self.assertEqual(answers(web), kept)
            self.assertEqual(answers(same_rounds(web)), kept)
            self.assertEqual(answers(read_web(web_text(web))), kept)
            self.assertEqual(rounds(web), ahead)

    def test_no_list_and_no_dict_stands_in_two_places(self):
        for web in some_webs():
            whole = answers(web)
            met = []
            waiting = [whole]
            while waiting:
                thing = waiting.pop()
                if isinstance(thing, (list, dict)):
                    met.append(id(thing))
                if isinstance(thing, (list, tuple)):
                    waiting += thing
                elif isinstance(thing, dict):
                    waiting += thing.values()
            self.assertEqual(len(met), len(set(met)))

    def test_webs_that_were_told_are_handed_in_again(self):
        for web in [Web(caps(4, 6)), Web(caps()), Web(grid())]:
            other = other_web(web)
            told = answers(other)
            self.assertEqual(answers(Web(rounds(other))), told)
            self.assertTrue(are_right(other, told["five"]))


class BehindEachDeed(unittest.TestCase):
    def test_the_web_reads_back_and_tells_the_same(self):
        chance = random.Random(3)
        for web in [Web(caps(1, 5)), Web(caps()), Web([])]:
            kept, model = Kept(web), Model(web)
            for k in range(60):
                word, things = deed_by_chance(model, chance, ["na", "nb", "nc", "nd", "ne"])
                try:
                    getattr(model, word)(*things)
                except Refusal:
                    continue
                getattr(kept, word)(*things)
                now = kept.web_now()
                self.assertEqual(rounds(read_web(web_text(now))), model.told_rounds())
                anew = Web([(place, list(around)) for place, around in model.rounds.items()])
                self.assertEqual(answers(anew), answers(now))
                self.assertIs(fault(now, kept.hues_now()), None)

    def test_changes_behind_the_call(self):
        kept = Kept(Web(caps()))
        kept.untie("north", "aa")
        told = kept.web_now()
        ahead = answers(told)
        spoil(answers(told))
        spoil(kept.hues_now())
        spoil(kept.untie("north", "ab"))
        self.assertEqual(answers(told), ahead)
        self.assertTrue(are_right(kept.web_now(), kept.hues_now()))


class ThePromise(unittest.TestCase):
    def test_hues_and_what_tells_why_not(self):
        for web in some_webs():
            told = answers(web)
            self.assertTrue(are_right(web, told["six"]) and max(told["six"].values(), default=0) < 6)
            self.assertTrue(are_right(web, told["five"]) and max(told["five"].values(), default=0) < 5)
            self.assertEqual(read_paper(web, told["paper"]), told["five"])
            if told["four"][0] is not None:
                self.assertTrue(are_right(web, read_paper(web, told["four"][0], many=4)))
            kind, what = told["two"]
            self.assertTrue(are_right(web, what) if kind == "hues" else is_ring(web, what) and len(what) % 2 == 1)
            if len(web.places()) <= 12:
                kind, what = told["three"]
                lists = {place: [0, 1, 2] for place in web.places()}
                self.assertTrue(are_right(web, what) if kind == "hues" else is_read(web, lists, what))
                self.assertEqual(from_lists(web, lists)[0], kind)

    def test_mirrored_and_renamed_webs(self):
        chance = random.Random(4)
        for web in some_webs():
            told = answers(web)
            names = dict(zip(web.places(), chance.sample(["n" + place for place in web.places()], len(web.places()))))
            for image in [mirrored(web), renamed(web, names), Web(mixed(rounds(web), chance))]:
                self.assertEqual(len(faces(image)), len(told["faces"]))
                self.assertEqual(two_hues(image)[0], told["two"][0])
                self.assertEqual(kind_of(answer(three_hues, image)), kind_of(told["three"]))
                self.assertEqual(refusal(other_web, image), refusal(other_web, web))
                self.assertTrue(are_right(image, five_hues(image)))
            image = mirrored(web)
            self.assertEqual((order(image), six_hues(image)), (told["order"], told["six"]))
            self.assertIs(fault(image, told["five"]), None)
            moved = {names[place]: told["five"][place] for place in names}
            self.assertIs(fault(renamed(web, names), moved), None)
            for ring in rings_of(web):
                self.assertEqual(lots(mirrored(web), ring), lots(web, ring)[::-1])

    def test_chains_stay_right(self):
        for web in some_webs():
            hues = five_hues(web)
            for place in web.places()[:6]:
                for other in [hue for hue in range(5) if hue != hues[place]]:
                    self.assertIn(place, chain(web, hues, place, other))
                    self.assertTrue(are_right(web, exchanged(web, hues, place, other)))


if __name__ == "__main__":
    unittest.main()
