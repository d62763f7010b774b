"""Lengths and counts of items, told without walking [24]."""

from samesamples.lengths import items_count, items_length
from samesamples.scorekinds import is_items
from helpers import ANYTHING, Case, drawing
from scores import MANY, NOTE, PART, REST, SONG, drawn_items, drawn_score, plain_events, plain_length, song


class Lengths(Case):
    def test_each_item(self):
        for item, length, count in (
            (("note", 3, (5, 2)), (5, 2), 1), (("rest", (7, 3)), (7, 3), 0), (("loud", 9), (0, 1), 0),
            (("call", "a", -5), (1, 2), 1), (("times", 0, PART), (0, 1), 0), (("times", 3, PART), (15, 2), 12),
            (("by", (2, 3), PART), (5, 3), 4), (("times", MANY, (REST,)), (MANY, 1), 0), (("by", (1, 16), ()), (0, 1), 0),
        ):
            self.same(items_length(SONG, (item,)), length)
            self.same(items_count(SONG, (item,)), count)
        self.same((items_length(SONG, ()), items_count(SONG, ())), ((0, 1), 0))

    def test_drawn_scores(self):
        source = drawing(24)
        for _ in range(200):
            score = drawn_score(source)
            items = drawn_items(source, [name for name, _ in score[2]])
            self.same(items_length(score, items), plain_length(score, items))
            self.same(items_count(score, items), len(plain_events(score, items)))

    def test_nothing_is_walked(self):
        items = (NOTE, REST)
        for _ in range(7):
            items = (("times", MANY, items),)
        self.same(items_length(SONG, items), (2 * MANY ** 7, 1))
        self.same(items_count(SONG, items), MANY ** 7)
        phrases = [("p0", (("times", MANY, (NOTE, REST)),) * 200)]
        for at in range(1, 12):
            phrases.append((f"p{at}", (("call", f"p{at - 1}", 0),) * 200))
        score = song((), phrases=phrases)
        self.same(items_length(score, (("call", "p11", 0),)), (2 * MANY * 200 ** 12, 1))
        self.same(items_count(score, (("call", "p11", 0),)), MANY * 200 ** 12)

    def test_wrong_inputs(self):
        for thing in ANYTHING + ((NOTE, ("note",)), [NOTE], NOTE):
            if not is_items(thing):
                self.refuses("items", items_length, SONG, thing)
                self.refuses("items", items_count, SONG, thing)
        for items in ((("call", "v", 0),), (("times", 0, (("call", "b", 0),)),), (("by", (1, 1), (("call", "b", 0),)),)):
            self.refuses("items", items_length, SONG, items)
            self.refuses("items", items_count, SONG, items)
        self.same(items_length(items=(NOTE,), score=SONG), (1, 1))
        self.same(items_count(items=(NOTE,), score=SONG), 1)
