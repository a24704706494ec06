"""Point 1: what holds of all functions."""

import copy
import unittest
from inspect import getmembers, isfunction, signature

from kaleidorooms import (
    arrows, belows, blocks, desk, errors, flats, freelots, halls, heights, jumps, loads, logmends, logs, mirrored,
    mirrorrooms, mirrors, moves, plays, prices, quotients, rings, rising, rooms, roundways, series, shifts, shortwords,
    smallends, suites, texts, turnedstarts, turning, within, words,
)
from kaleidorooms.halls import Hall, part_of, renamed
from tests.helpers import BENT, CHAIN, MIXED, PAIR, RING, expect_error, hall_of

TWO_LAMPS = hall_of(2)
LOG = (("lost",), ("seen", 1, -3), ("pressed", 1))
RIGHT = {
    halls.neighbours: [CHAIN, 0], halls.wings: [MIXED], halls.bond: [CHAIN, 0, 1], halls.part_of: [MIXED, (0, 2)],
    halls.renamed: [PAIR, (1, 0)], loads.kind: [RING, (0, 1, 2)], loads.kinds: [MIXED], loads.load: [RING, (0, 1, 2)],
    loads.shows_kind: [RING, (0, 1, 2), ["flat", [1, {1: [2]}]]], loads.name_of: [CHAIN, (0, 1)],
    plays.able: [CHAIN, (-1, 2)], plays.pressed: [CHAIN, (-1, 2), 0], plays.behind: [CHAIN, (-1, 2), (0,)],
    plays.never_paper: [PAIR, (1, -1)], plays.shows_never: [PAIR, (1, -1), [[0, 1], [1, 1]]],
    plays.end: [CHAIN, (-1, -2)], plays.first_play: [CHAIN, (-1, -2)], plays.handed: [CHAIN, (-1, -2)],
    plays.presses: [CHAIN, (-1, -2)], plays.count_plays: [CHAIN, (-1, -2)], plays.all_numbers: [CHAIN, (-1, -2)],
    plays.starts_to: [CHAIN, (1, 0), 2], rooms.first_room: [CHAIN], rooms.is_room: [CHAIN, [1, [1]]],
    rooms.through: [CHAIN, (1, 1), 0], rooms.distance: [CHAIN, (-1, -1)], rooms.walls_home: [CHAIN, (-1, -1)],
    words.go: [RING, (0, 1)], words.same_room: [CHAIN, (0, 1, 0), (1, 0, 1)], words.is_short: [PAIR, (0, 1)],
    words.short_word: [CHAIN, (-1, -1)], words.first_letters: [CHAIN, (-1, -1)], words.back_room: [CHAIN, (1, -2)],
    words.dropped: [BENT, (1, 0, 1), 0], shortwords.count_short: [CHAIN, (-1, -1)],
    shortwords.all_short: [CHAIN, (-1, -1)], shortwords.short_at: [CHAIN, (-1, -1), 1],
    shortwords.short_place: [CHAIN, (1, 0, 1)], moves.after_move: [BENT, (0, 1, 0), ("turn", 0, 0, 1)],
    moves.moves_between: [CHAIN, (0, 1, 0), (1, 0, 1, 0, 0)],
    moves.shows_moves: [CHAIN, (0, 0), (), [("short", 0), ["short", [0]]]], arrows.is_arrow: [BENT, [1, [1], {}]],
    arrows.arrows: [BENT], arrows.turned_arrow: [BENT, (0, 0, 1), 1], arrows.way_to_unit: [BENT, (2, 2, 1)],
    arrows.shows_way: [BENT, (2, 2, 1), [0, [1]]], arrows.greatest_arrow: [BENT, (0, 1, 2)],
    arrows.arrow_sum: [BENT, (1, 2, 1), (1, -1, 3)], mirrors.mirrors_of: [CHAIN, (-1, -1)],
    mirrors.room_of: [CHAIN, [(1, 1), (1, 0)]], mirrors.why_not: [CHAIN, [(1, 1)]],
    mirrors.shows_why: [CHAIN, [(1, 1)], [(1, 0), [0, 1], (1, 1)]], heights.heights: [BENT], heights.steps: [BENT],
    heights.count_rooms: [BENT], heights.rooms_by_distance: [BENT], mirrored.mirror_word: [BENT, (2, 2, 1)],
    mirrored.mirror_room: [BENT, (2, 2, 1)], mirrored.arrows_pressed: [CHAIN, (-1, -2), (0, 1)],
    within.is_within: [CHAIN, (-1, 2), (-2, 1)], within.followed: [CHAIN, (-1, 2), (-2, 1), (0, 1)],
    within.letters_for: [CHAIN, (0, 1, 0), (2, -1)], within.are_letters: [CHAIN, (0, 1, 0), (-1, 2), [[0], 1]],
    within.greatest_by: [CHAIN, (0, 0, 1)], rising.covers: [CHAIN, (-1, -1)], rising.covered: [CHAIN, (1, 1)],
    rising.rising: [CHAIN, (1, 1), (-1, -1)], rising.shows_rising: [CHAIN, (1, 1), (-1, 2), [[1, 1], [-1, 2]]],
    rising.opposite: [CHAIN, (-1, 2)], belows.below: [BENT, (-1, -1, -1)], belows.series: [BENT, (-1, -1, -1)],
    belows.between: [CHAIN, (-1, 2), (-1, -1)], belows.evens_less_odds: [CHAIN, (-1, 2), (-1, 2)],
    belows.common_within: [CHAIN, (-2, 1), (1, -2)], belows.common_above: [CHAIN, (-1, 2), (2, -1)],
    mirrorrooms.mirror_rooms: [BENT, (1, 1, 1)], mirrorrooms.mirrors_within: [CHAIN, (1, 1), (-2, 1)],
    mirrorrooms.is_even_sided: [BENT, (-1, -1, -1)], suites.suite: [BENT, (-1, -1, -1), (0, 1)],
    suites.nearest: [BENT, (-1, -1, -1), (0, 1)], suites.farthest: [BENT, (1, 1, 1), (0, 1)],
    suites.split: [BENT, (-1, -1, -1), (0, 2)], suites.joined: [CHAIN, (1, 1), (-1,), (1,)],
    quotients.count_suites: [BENT, (0, 1)], quotients.nearest_rooms: [BENT, (0, 1)],
    quotients.suites_by_distance: [BENT, (0, 1)], quotients.last_room: [BENT, (0, 1)],
    quotients.count_with_home: [BENT, (0, 1)], quotients.rooms_with_home: [BENT, (0, 1)],
    blocks.block: [BENT, (1, 1, 1), (0,), (1, 2)], blocks.block_nearest: [BENT, (-1, -1, -1), (0,), (1,)],
    blocks.count_blocks: [BENT, (0,), (1, 2)], turnedstarts.count_numbers: [BENT, (0, -2, 1)],
    turnedstarts.all_turned: [BENT, (0, 0, 1)], turnedstarts.number_word: [BENT, (-1, -2, 0)],
    flats.level: [RING, (3, -2, 1)], flats.is_flat_arrow: [RING, [1, [0]]], flats.arrows_to: [RING, 4],
    flats.repeat_of: [RING, (1, 0, 0)], flats.presses_far: [RING, (-2, 3, 0)], series.corner: [RING],
    series.rooms_at: [RING, 9], shifts.shift_of: [RING, (0, 1, 2, 1)], shifts.shifted: [PAIR, (0, 1), (2, -2)],
    shifts.shift_word: [RING, (1, 1, -2)], shifts.shift_split: [PAIR, (5, -3)], rings.ring_numbers: [RING, (1, -1, 0)],
    rings.way_back: [RING, (1, -1, 0)], rings.comes_back: [RING, (1, -1, 0)], turning.turns: [CHAIN],
    turning.turned_numbers: [CHAIN, (1, 0), (2, 3)], turning.turn_rings: [CHAIN, (1, 0)],
    turning.can_fold: [CHAIN, (1, 0)], turning.folded: [TWO_LAMPS, (1, 0)],
    turning.ring_values: [TWO_LAMPS, (1, 0), (-3, -3)], turning.spread_numbers: [TWO_LAMPS, (1, 0), (3,)],
    turning.spread_word: [TWO_LAMPS, (1, 0), (0, 0)], turning.fixed_rooms: [CHAIN, (1, 0)],
    turning.beside: [CHAIN, BENT], smallends.starts_of: [CHAIN, (1, 0)], smallends.is_small: [CHAIN, (1, 0)],
    smallends.small_ends: [CHAIN], prices.cheapest: [CHAIN, (5, 1), (-1, -1)],
    prices.dearest_short: [CHAIN, (5, 1), (-1, -1)], prices.one_price: [CHAIN, (5, 1)],
    logs.fits: [CHAIN, (-1, -2), (0, 1), LOG], logs.plays_of: [CHAIN, (-1, -2), LOG],
    logs.count_fits: [CHAIN, (-1, -2), LOG], logs.first_against: [CHAIN, (-1, 2), LOG],
    logs.numbers_behind: [CHAIN, (-1, -2), LOG], logs.times_pressed: [CHAIN, (-1, -2), LOG],
    logs.starts_told: [CHAIN, LOG, 2], logmends.doubted: [CHAIN, (-1, -2), LOG + (("seen", 0, 9),)],
    logmends.mended: [CHAIN, (-1, -2), LOG + (("seen", 0, 9),)], texts.write: [CHAIN, (-1, -2)],
    texts.read: ["lamp 0 has 1 pushes 1 2\nlamp 1 has -3 pushes 0 1"], jumps.jumped: [CHAIN, ((1, 0), (0, 1))],
    jumps.fewest_jumps: [CHAIN, (1, -2)], jumps.jump_way: [CHAIN, (1, -2)],
    jumps.shows_jump_way: [CHAIN, (1, -2), [(0, 1), [1, 1]]], jumps.are_independent: [CHAIN, ((1, 0), (1, 1))],
    jumps.rooms_by_jumps: [BENT], roundways.round_room: [BENT, (1, 0, 2)], roundways.on_round: [BENT, (1, 0, 2)],
    roundways.count_round: [BENT], roundways.round_by_jumps: [BENT], freelots.is_free: [CHAIN, [(1, 0), (0, 1)]],
    freelots.free_lots: [BENT], freelots.free_by_size: [BENT],
}
NAMES = {
    "neighbours": "hall lamp", "wings": "hall", "bond": "hall one other", "part_of": "hall lamps",
    "renamed": "hall order", "kind": "hall wing", "kinds": "hall", "load": "hall wing",
    "shows_kind": "hall wing value", "name_of": "hall wing", "able": "hall numbers", "pressed": "hall numbers lamp",
    "behind": "hall start play", "never_paper": "hall start", "shows_never": "hall start value", "end": "hall start",
    "first_play": "hall start", "handed": "hall start", "presses": "hall start", "count_plays": "hall start",
    "all_numbers": "hall start", "starts_to": "hall numbers many", "first_room": "hall", "is_room": "hall value",
    "through": "hall room lamp", "distance": "hall room", "walls_home": "hall room", "go": "hall word",
    "same_room": "hall one other", "is_short": "hall word", "short_word": "hall room", "first_letters": "hall room",
    "back_room": "hall room", "dropped": "hall word lamp", "count_short": "hall room", "all_short": "hall room",
    "short_at": "hall room number", "short_place": "hall word", "after_move": "hall word move",
    "moves_between": "hall one other", "shows_moves": "hall one other value", "is_arrow": "hall value",
    "arrows": "hall", "turned_arrow": "hall arrow lamp", "way_to_unit": "hall arrow", "shows_way": "hall arrow value",
    "greatest_arrow": "hall wing", "arrow_sum": "hall arrow numbers", "mirrors_of": "hall room",
    "room_of": "hall lot", "why_not": "hall lot", "shows_why": "hall lot value", "heights": "hall", "steps": "hall",
    "count_rooms": "hall", "rooms_by_distance": "hall", "mirror_word": "hall arrow", "mirror_room": "hall arrow",
    "arrows_pressed": "hall start play", "is_within": "hall room other", "followed": "hall room other play",
    "letters_for": "hall word room", "are_letters": "hall word room value", "greatest_by": "hall word",
    "covers": "hall room", "covered": "hall room", "rising": "hall room other",
    "shows_rising": "hall room other value", "opposite": "hall room", "below": "hall room", "series": "hall room",
    "between": "hall room other", "evens_less_odds": "hall room other", "common_within": "hall one other",
    "common_above": "hall one other", "mirror_rooms": "hall room", "mirrors_within": "hall room other",
    "is_even_sided": "hall room", "suite": "hall room lamps", "nearest": "hall room lamps",
    "farthest": "hall room lamps", "split": "hall room lamps", "joined": "hall near rest lamps",
    "count_suites": "hall lamps", "nearest_rooms": "hall lamps", "suites_by_distance": "hall lamps",
    "last_room": "hall lamps", "count_with_home": "hall lamps", "rooms_with_home": "hall lamps",
    "block": "hall room front back", "block_nearest": "hall room front back", "count_blocks": "hall front back",
    "count_numbers": "hall numbers", "all_turned": "hall numbers", "number_word": "hall numbers",
    "level": "hall numbers", "is_flat_arrow": "hall value", "arrows_to": "hall height", "repeat_of": "hall arrow",
    "presses_far": "hall start", "corner": "hall", "rooms_at": "hall most", "shift_of": "hall word",
    "shifted": "hall numbers shift", "shift_word": "hall shift", "shift_split": "hall room",
    "ring_numbers": "hall start", "way_back": "hall start", "comes_back": "hall start", "turns": "hall",
    "turned_numbers": "hall turn numbers", "turn_rings": "hall turn", "can_fold": "hall turn", "folded": "hall turn",
    "ring_values": "hall turn numbers", "spread_numbers": "hall turn numbers", "spread_word": "hall turn word",
    "fixed_rooms": "hall turn", "beside": "one other", "starts_of": "hall numbers", "is_small": "hall numbers",
    "small_ends": "hall", "cheapest": "hall prices room", "dearest_short": "hall prices room",
    "one_price": "hall prices", "fits": "hall start play log", "plays_of": "hall start log",
    "count_fits": "hall start log", "first_against": "hall start log", "numbers_behind": "hall start log",
    "times_pressed": "hall start log", "starts_told": "hall log far", "doubted": "hall start log",
    "mended": "hall start log", "write": "hall numbers", "read": "text", "jumped": "hall jumps",
    "fewest_jumps": "hall room", "jump_way": "hall room", "shows_jump_way": "hall room value",
    "are_independent": "hall jumps", "rooms_by_jumps": "hall", "round_room": "hall order", "on_round": "hall order",
    "count_round": "hall", "round_by_jumps": "hall", "is_free": "hall lot", "free_lots": "hall", "free_by_size": "hall",
}


def plain(value):
    """A value in which halls are told by their pushes."""
    if isinstance(value, Hall):
        return ("hall", value.pushes)
    if isinstance(value, (list, tuple)):
        return value.__class__([plain(thing) for thing in value])
    return value


def scrambled(value):
    """Changes a returned list as a caller may."""
    if isinstance(value, list):
        value.append("scrambled")
        value.reverse()


class Common(unittest.TestCase):
    def test_names_of_arguments(self):
        self.assertEqual(sorted(NAMES), sorted(function.__name__ for function in RIGHT))
        for function in RIGHT:
            self.assertEqual(NAMES[function.__name__].split(), list(signature(function).parameters))
            listed = [name for name, _ in getmembers(__import__(function.__module__, fromlist=["x"]), isfunction)]
            self.assertIn(function.__name__, listed)

    def test_arguments_are_not_changed(self):
        for function, arguments in RIGHT.items():
            before = plain(copy.deepcopy(arguments))
            function(*arguments)
            self.assertEqual(before, plain(arguments), function.__name__)

    def test_returned_lists_are_new(self):
        for function, arguments in RIGHT.items():
            answer = function(*arguments)
            kept = plain(copy.deepcopy(answer))
            scrambled(answer)
            self.assertEqual(kept, plain(function(*arguments)), function.__name__)

    def test_equal_values_have_equal_answers(self):
        for function, arguments in RIGHT.items():
            if function == texts.read:
                continue
            hall = arguments[0]
            everyone = tuple(range(len(hall)))
            answer = plain(function(*arguments))
            others = [Hall(tuple([tuple(list(row)) for row in hall.pushes])), part_of(hall, everyone)]
            others.append(renamed(renamed(hall, everyone[::-1]), everyone[::-1]))
            for other in others:
                again = [other] + copy.deepcopy(arguments[1:])
                self.assertEqual(answer, plain(function(*again)), function.__name__)
                self.assertEqual(answer, plain(function(**dict(zip(signature(function).parameters, again)))))

    def test_texts_of_equal_halls(self):
        text = RIGHT[texts.read][0]
        for again in ("".join(list(text)), text[:9] + text[9:], texts.write(*texts.read(text))):
            self.assertEqual(texts.read(text), texts.read(again))
            self.assertEqual(texts.read(text), texts.read(text=again))

    def test_desks_of_equal_values(self):
        pushes, numbers = [[0, 1], [1, 0]], [-1, -2]
        for hall in (CHAIN, Hall(tuple(map(tuple, pushes)))):
            one = desk.Desk(hall=hall, numbers=tuple(numbers))
            one.press(lamp=0)
            one.set_number(lamp=0, number=-7)
            one.tie(one=0, other=1, times=2, back=1)
            one.cross(lamp=1)
            self.assertEqual((((0, 2), (1, 0)), (-10, 3)), (one.own_hall.pushes, one.own_numbers))
            self.assertEqual((CHAIN, (-1, -2)), (hall, tuple(numbers)))

    def test_an_object_is_equal_to_nothing_of_another_kind(self):
        for value in (CHAIN.pushes, [[0, 1], [1, 0]], None, 2, "hall", desk.Desk(CHAIN, (1, 1))):
            self.assertFalse(CHAIN == value)
            self.assertTrue(CHAIN != value)
        for value in (CHAIN, (CHAIN, (1, 1)), (1, 1), None, 0, "desk"):
            self.assertFalse(desk.Desk(CHAIN, (1, 1)) == value)

    def test_a_call_that_raises_changes_nothing(self):
        numbers = [-1, -2]
        expect_error(self, plays.pressed, [CHAIN, numbers, 0], errors.BadNumbers)
        self.assertEqual([-1, -2], numbers)
        value = [["flat"], {"a": [1]}]
        loads.shows_kind(RING, (0, 1, 2), value)
        plays.shows_never(RING, (0, 0, 0), value)
        rooms.is_room(RING, value)
        moves.shows_moves(RING, (0,), (0,), value)
        arrows.shows_way(CHAIN, (1, 0), value)
        mirrors.shows_why(CHAIN, [], value)
        within.are_letters(CHAIN, (0, 1), (1, 1), value)
        rising.shows_rising(CHAIN, (1, 1), (1, 1), value)
        flats.is_flat_arrow(PAIR, value)
        jumps.shows_jump_way(CHAIN, (1, -2), value)
        self.assertEqual([["flat"], {"a": [1]}], value)
        lot = [(1, 1), (0, 1), (1, 1)]
        expect_error(self, mirrors.room_of, [CHAIN, lot], errors.BadArrows, index=2)
        self.assertEqual([(1, 1), (0, 1), (1, 1)], lot)

    def test_halls_have_no_setter(self):
        hall = hall_of(2, (0, 1, 1, 1))
        with self.assertRaises(AttributeError):
            hall.pushes = ((0, 2), (2, 0))
        self.assertEqual(((0, 1), (1, 0)), hall.pushes)


if __name__ == "__main__":
    unittest.main()
