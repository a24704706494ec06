"""Points 53 and 54: what functions promise together, over drawn halls."""

import unittest

from kaleidorooms.arrows import arrows, greatest_arrow
from kaleidorooms.belows import below
from kaleidorooms.desk import Desk
from kaleidorooms.flats import arrows_to, level, presses_far
from kaleidorooms.freelots import free_by_size, free_lots
from kaleidorooms.halls import bond, neighbours, part_of, renamed, wings
from kaleidorooms.heights import count_rooms, heights, rooms_by_distance, steps
from kaleidorooms.jumps import fewest_jumps, rooms_by_jumps
from kaleidorooms.loads import kind, load, name_of
from kaleidorooms.logmends import doubted
from kaleidorooms.logs import count_fits, numbers_behind, plays_of, starts_told, times_pressed
from kaleidorooms.mirrored import arrows_pressed, mirror_room
from kaleidorooms.mirrorrooms import mirror_rooms, mirrors_within
from kaleidorooms.mirrors import mirrors_of, room_of
from kaleidorooms.plays import (
    able, all_numbers, behind, count_plays, end, first_play, handed, never_paper, presses, starts_to,
)
from kaleidorooms.prices import cheapest, dearest_short, one_price
from kaleidorooms.quotients import count_suites, count_with_home, nearest_rooms, suites_by_distance
from kaleidorooms.rings import comes_back, ring_numbers
from kaleidorooms.rising import covered, covers, opposite
from kaleidorooms.rooms import distance, first_room, is_room, through, walls_home
from kaleidorooms.roundways import count_round, on_round, round_by_jumps
from kaleidorooms.series import rooms_at
from kaleidorooms.shifts import shift_of, shifted
from kaleidorooms.shortwords import all_short, count_short
from kaleidorooms.smallends import small_ends, starts_of
from kaleidorooms.suites import farthest, nearest, suite
from kaleidorooms.texts import read, write
from kaleidorooms.turnedstarts import all_turned, count_numbers, number_word
from kaleidorooms.turning import beside, can_fold, folded, spread_numbers, spread_word, turn_rings, turns
from kaleidorooms.within import followed, is_within, letters_for
from kaleidorooms.words import go, is_short, same_room, short_word
from tests.helpers import (
    FLATS, NAMED, all_plays, dice_of, led_plainly, lots_of_lamps, random_hall, random_numbers, rooms_to,
)


def drawn_ending(dice, lamps, rooms=10 ** 9):
    """A hall of at most so many lamps and rooms of which all wings are ending, by dice, in any order."""
    hall = None
    for _ in range(9):
        wing = dice.choice(list(NAMED.values()))
        if len(wing) + (0 if hall is None else len(hall)) > lamps:
            continue
        both = wing if hall is None else beside(hall, wing)
        if count_rooms(both) <= rooms:
            hall = both
    if hall is None:
        hall = NAMED["a", 1]
    return renamed(hall, tuple(dice.sample(range(len(hall)), len(hall))))


def drawn_flat(dice):
    """A hall of one flat wing, by dice, in any order."""
    hall = dice.choice(FLATS)
    return renamed(hall, tuple(dice.sample(range(len(hall)), len(hall))))


def drawn_room(dice, hall, letters=6):
    """A room, by dice."""
    word = [dice.randrange(len(hall)) for _ in range(dice.randint(0, letters))]
    return led_plainly(hall, (1,) * len(hall), word)


def times_of(one, other):
    """The counts of all sums of two things, of which the counts are told."""
    counts = [0] * (len(one) + len(other) - 1)
    for at, many in enumerate(one):
        for more, times in enumerate(other):
            counts[at + more] += many * times
    return tuple(counts)


class Readings(unittest.TestCase):
    def test_short_words_are_plays(self):
        dice = dice_of(5301)
        halls = [drawn_ending(dice, 5) for _ in range(8)] + [drawn_flat(dice) for _ in range(4)]
        for hall in halls + [random_hall(dice, 4, most=3) for _ in range(4)]:
            room = drawn_room(dice, hall)
            words = all_short(hall, room)
            for word in words:
                self.assertEqual(first_room(hall), behind(hall, room, word[::-1]))
            plays = [play for play, numbers in all_plays(hall, room, 7) if not able(hall, numbers)]
            self.assertEqual(words, sorted(play[::-1] for play in plays))
            self.assertEqual(len(plays), count_plays(hall, room))
            self.assertTrue(all(is_short(hall, play[::-1]) for play in plays))
            self.assertEqual(len(words), count_short(hall, room))

    def test_plays_press_the_arrows_that_part_a_room(self):
        dice = dice_of(5302)
        for _ in range(25):
            hall = drawn_ending(dice, 8)
            room = drawn_room(dice, hall, 12)
            ups = arrows(hall)
            pressed = sorted(arrows_pressed(hall, room, first_play(hall, room)), key=ups.index)
            self.assertEqual(mirrors_of(hall, room), pressed)
            pressed = sorted(arrows_pressed(hall, room, short_word(hall, room)[::-1]), key=ups.index)
            self.assertEqual(mirrors_of(hall, room), pressed)
            self.assertEqual(room, room_of(hall, pressed))

    def test_as_many_rooms_as_numbers_from_the_first_one(self):
        dice = dice_of(5303)
        for _ in range(20):
            hall = drawn_ending(dice, 8)
            first, last = first_room(hall), (-1,) * len(hall)
            self.assertEqual(count_rooms(hall), count_numbers(hall, first))
            if count_rooms(hall) <= 2000:
                self.assertEqual(count_rooms(hall), len(all_turned(hall, first)))
                self.assertEqual(sorted(rooms_to(hall, 200)), all_turned(hall, first))
            self.assertEqual(len(arrows(hall)), distance(hall, last))
            self.assertEqual((len(arrows(hall)) + 1, 1), (len(rooms_by_distance(hall)), rooms_by_distance(hall)[-1]))
            self.assertEqual((last, first), (opposite(hall, first), opposite(hall, last)))
            self.assertEqual(arrows(hall), mirrors_of(hall, last))

    def test_rooms_within_one_another(self):
        dice = dice_of(5304)
        found = set()
        for _ in range(60):
            hall = drawn_ending(dice, 6)
            room, other = drawn_room(dice, hall), drawn_room(dice, hall, 14)
            inside = is_within(hall, room, other)
            found.add(inside)
            play = first_play(hall, other)
            self.assertIs(inside, letters_for(hall, play[::-1], room) is not None)
            self.assertIs(inside, followed(hall, room, other, play) == first_room(hall))
            self.assertIs(inside, is_within(hall, opposite(hall, other), opposite(hall, room)))
            if set(mirrors_of(hall, room)) <= set(mirrors_of(hall, other)):
                self.assertIs(True, inside)
            if inside:
                self.assertGreaterEqual(mirrors_within(hall, room, other), distance(hall, other))
                self.assertLessEqual(distance(hall, room), distance(hall, other))
        self.assertEqual({True, False}, found)

    def test_rooms_within_by_mirror_rooms(self):
        dice = dice_of(5305)
        for _ in range(12):
            hall = drawn_ending(dice, 4, 400)
            other = drawn_room(dice, hall, 12)
            # All rooms within it: by going to nearer mirror rooms, again and again.
            reached, fresh = {other}, [other]
            while fresh:
                last = fresh.pop()
                for mirrored in mirror_rooms(hall, last):
                    nearer = distance(hall, mirrored) < distance(hall, last)
                    self.assertIs(nearer, is_within(hall, mirrored, last))
                    self.assertIs(not nearer, is_within(hall, last, mirrored))
                    if nearer and mirrored not in reached:
                        reached.add(mirrored)
                        fresh.append(mirrored)
            self.assertEqual(reached, set(below(hall, other)))

    def test_numbers_from_others(self):
        dice = dice_of(5306)
        for _ in range(30):
            hall = drawn_ending(dice, 8)
            start = random_numbers(dice, hall, dice.choice((1, 1, 3)))
            at_end = end(hall, start)
            noughts = tuple([lamp for lamp in range(len(hall)) if at_end[lamp] == 0])
            many = count_numbers(hall, start)
            self.assertEqual(count_suites(hall, noughts), many)
            if many <= 2000:
                self.assertEqual((many, many), (len(all_turned(hall, start)), len(starts_of(hall, at_end))))
            self.assertEqual(presses(hall, start), len(number_word(hall, start)))

    def test_folded_plays(self):
        dice = dice_of(5307)
        tried = 0
        for _ in range(40):
            one = drawn_ending(dice, 4)
            hall = dice.choice([one, beside(one, one), NAMED["a", 5], NAMED["d", 6], NAMED["e", 6]])
            turn = dice.choice(turns(hall))
            if not can_fold(hall, turn):
                continue
            small = folded(hall, turn)
            start = random_numbers(dice, small, 3)
            spread = spread_numbers(hall, turn, start)
            play = first_play(small, start)
            rings = turn_rings(hall, turn)
            whole = tuple([lamp for letter in play for lamp in rings[letter]])
            self.assertEqual(spread_numbers(hall, turn, end(small, start)), behind(hall, spread, whole))
            self.assertEqual((end(hall, spread), presses(hall, spread)), (behind(hall, spread, whole), len(whole)))
            if len(whole) <= 60:
                self.assertEqual(whole, spread_word(hall, turn, play))
            tried += len(small) < len(hall)
        self.assertGreater(tried, 5)

    def test_lost_presses(self):
        dice = dice_of(5401)
        for _ in range(20):
            hall = dice.choice([drawn_ending(dice, 5), drawn_flat(dice), random_hall(dice, 3)])
            start = random_numbers(dice, hall, 2)
            for many in range(5):
                plays = [play for play, _ in all_plays(hall, start, many) if len(play) == many]
                self.assertEqual(len(plays), count_fits(hall, start, (("lost",),) * many))
                if len(plays) <= 2000:
                    self.assertEqual(sorted(plays), plays_of(hall, start, (("lost",),) * many))
        for _ in range(20):
            hall = drawn_ending(dice, 4)
            start = random_numbers(dice, hall, 2)
            left = presses(hall, start)
            if left <= 6:
                self.assertEqual(count_plays(hall, start), count_fits(hall, start, (("lost",),) * left))

    def test_products_over_suites(self):
        dice = dice_of(5402)
        for _ in range(20):
            hall = drawn_ending(dice, 8)
            lamps = dice.choice(lots_of_lamps(hall))
            part = rooms_by_distance(part_of(hall, lamps)) if lamps else (1,)
            self.assertEqual(rooms_by_distance(hall), times_of(suites_by_distance(hall, lamps), part))
            self.assertEqual(count_rooms(hall), count_suites(hall, lamps) * sum(part))
            room = drawn_room(dice, hall)
            if sum(part) <= 2000:
                near = distance(hall, nearest(hall, room, lamps))
                far = [distance(hall, one) - near for one in suite(hall, room, lamps)]
                self.assertEqual(part, tuple([far.count(at) for at in range(max(far) + 1)]))

    def test_products_over_halls_beside_each_other(self):
        dice = dice_of(5403)
        for _ in range(15):
            one, other = drawn_ending(dice, 4), drawn_ending(dice, 4)
            both = beside(one, other)
            self.assertEqual(times_of(rooms_by_distance(one), rooms_by_distance(other)), rooms_by_distance(both))
            self.assertEqual(times_of(rooms_by_jumps(one), rooms_by_jumps(other)), rooms_by_jumps(both))
            near, rest = drawn_room(dice, one), drawn_room(dice, other)
            self.assertIs(True, is_room(both, near + rest))
            self.assertEqual(distance(one, near) + distance(other, rest), distance(both, near + rest))
            self.assertEqual(sorted(small + more for small in small_ends(one) for more in small_ends(other)),
                             small_ends(both))
            self.assertEqual(count_round(one) * count_round(other), count_round(both))

    def test_desks_led_through_walls(self):
        dice = dice_of(5404)
        for _ in range(20):
            hall = dice.choice([drawn_ending(dice, 8), drawn_flat(dice), random_hall(dice, 5)])
            word = tuple([dice.randrange(len(hall)) for _ in range(dice.randint(0, 12))])
            desk = Desk(hall, first_room(hall))
            for lamp in word:
                desk.cross(lamp)
            self.assertEqual((go(hall, word), len(word), ()), (desk.own_numbers, len(desk), desk.own_log))
            room, stand = desk.own_numbers, desk.copy()
            for lamp in first_play(hall, room):
                desk.press(lamp)
            self.assertEqual((first_room(hall), distance(hall, room)), (desk.own_numbers, len(desk.own_log)))
            self.assertEqual((0, distance(hall, room)), (desk.presses_left(), stand.presses_left()))
            self.assertEqual((hall, room), read(write(stand.own_hall, stand.own_numbers)))

    def test_one_price_for_all_walls(self):
        dice = dice_of(5405)
        for _ in range(20):
            hall = drawn_ending(dice, 5)
            price = dice.randint(0, 9)
            prices = (price,) * len(hall)
            room = drawn_room(dice, hall)
            far = distance(hall, room)
            self.assertIs(True, one_price(hall, prices))
            self.assertEqual((price * far, short_word(hall, room)), cheapest(hall, prices, room))
            self.assertEqual(price * far, dearest_short(hall, prices, room))


class Renamed(unittest.TestCase):
    """A renamed hall tells all alike, renamed."""

    def setUp(self):
        self.dice = dice_of(5406)

    def draw(self, hall):
        """The hall renamed by a drawn order, and how to rename lamps, numbers, and lists of numbers."""
        order = tuple(self.dice.sample(range(len(hall)), len(hall)))
        place = order.index

        def numbers(told):
            return None if told is None else tuple([told[lamp] for lamp in order])

        def lamps(told):
            return tuple(sorted(map(place, told)))

        def listed(told):
            return None if told is None else sorted(map(numbers, told))

        return renamed(hall, order), place, numbers, lamps, listed

    def test_any_halls(self):
        for _ in range(25):
            hall = self.dice.choice([drawn_ending(self.dice, 6), drawn_flat(self.dice), random_hall(self.dice, 5)])
            other, place, numbers, lamps, listed = self.draw(hall)
            self.assertEqual(sorted(map(lamps, wings(hall))), wings(other))
            for wing in wings(hall):
                self.assertEqual((kind(hall, wing), name_of(hall, wing)),
                                 (kind(other, lamps(wing)), name_of(other, lamps(wing))))
                if kind(hall, wing) != "wild":
                    worth = dict(zip(map(place, wing), load(hall, wing)))
                    self.assertEqual(tuple([worth[lamp] for lamp in lamps(wing)]), load(other, lamps(wing)))
            one, two = self.dice.randrange(len(hall)), self.dice.randrange(len(hall))
            self.assertEqual(bond(hall, one, two), bond(other, place(one), place(two)))
            self.assertEqual(lamps(neighbours(hall, one)), neighbours(other, place(one)))
            start = random_numbers(self.dice, hall, 2)
            self.assertEqual(never_paper(hall, start) is None, never_paper(other, numbers(start)) is None)
            ended = numbers(tuple([abs(number) for number in start]))
            self.assertEqual(listed(starts_to(hall, tuple(map(abs, start)), 2)), starts_to(other, ended, 2))
            word = tuple([self.dice.randrange(len(hall)) for _ in range(6)])
            self.rooms_alike(hall, other, go(hall, word), place, numbers, lamps)
            self.assertEqual(numbers(go(hall, word)), go(other, tuple(map(place, word))))
            self.assertIs(same_room(hall, word, word[:4]), same_room(other, tuple(map(place, word)),
                                                                    tuple(map(place, word[:4]))))

    def rooms_alike(self, hall, other, room, place, numbers, lamps):
        self.assertEqual(distance(hall, room), distance(other, numbers(room)))
        self.assertEqual(lamps(walls_home(hall, room)), walls_home(other, numbers(room)))
        self.assertEqual(numbers(through(hall, room, 0)), through(other, numbers(room), place(0)))
        self.assertEqual(count_short(hall, room), count_short(other, numbers(room)))
        words = sorted(tuple(map(place, word)) for word in all_short(hall, room))
        self.assertEqual(words, all_short(other, numbers(room)))

    def test_ending_halls(self):
        for _ in range(15):
            hall = drawn_ending(self.dice, 6)
            other, _, numbers, lamps, listed = self.draw(hall)
            start = random_numbers(self.dice, hall, 2)
            self.assertEqual(numbers(end(hall, start)), end(other, numbers(start)))
            self.assertEqual(presses(hall, start), presses(other, numbers(start)))
            self.assertEqual(numbers(handed(hall, start)), handed(other, numbers(start)))
            if count_rooms(hall) <= 2000:
                self.assertEqual(listed(all_numbers(hall, start)), sorted(all_numbers(other, numbers(start))))
                self.assertEqual(count_plays(hall, start), count_plays(other, numbers(start)))
            self.assertEqual(listed(arrows(hall)), sorted(arrows(other)))
            self.assertEqual((heights(hall), steps(hall)), (heights(other), steps(other)))
            wing = wings(hall)[0]
            self.assertEqual(numbers(greatest_arrow(hall, wing)), greatest_arrow(other, lamps(wing)))
            arrow = self.dice.choice(arrows(hall))
            self.assertEqual(numbers(mirror_room(hall, arrow)), mirror_room(other, numbers(arrow)))
            one, two = drawn_room(self.dice, hall), drawn_room(self.dice, hall, 12)
            self.assertEqual(listed(mirrors_of(hall, one)), sorted(mirrors_of(other, numbers(one))))
            self.assertIs(is_within(hall, one, two), is_within(other, numbers(one), numbers(two)))
            self.assertEqual(listed(covers(hall, one)), covers(other, numbers(one)))
            self.assertEqual(listed(covered(hall, one)), covered(other, numbers(one)))
            self.assertEqual(fewest_jumps(hall, two), fewest_jumps(other, numbers(two)))
            lot = self.dice.choice(lots_of_lamps(hall))
            self.assertEqual(count_suites(hall, lot), count_suites(other, lamps(lot)))
            self.assertEqual(count_with_home(hall, lot), count_with_home(other, lamps(lot)))
            self.assertEqual(numbers(farthest(hall, one, lot)), farthest(other, numbers(one), lamps(lot)))
            if count_suites(hall, lot) <= 2000:
                self.assertEqual(listed(nearest_rooms(hall, lot)), sorted(nearest_rooms(other, lamps(lot))))

    def test_counts_and_lists(self):
        for _ in range(10):
            hall = drawn_ending(self.dice, 5)
            other, place, numbers, _, listed = self.draw(hall)
            self.assertEqual(rooms_by_jumps(hall), rooms_by_jumps(other))
            self.assertEqual(round_by_jumps(hall), round_by_jumps(other))
            self.assertEqual(free_by_size(hall), free_by_size(other))
            self.assertEqual(sorted(map(listed, free_lots(hall))), sorted(map(sorted, free_lots(other))))
            order = tuple(self.dice.sample(range(len(hall)), len(hall)))
            self.assertEqual(listed(on_round(hall, order)), sorted(on_round(other, tuple(map(place, order)))))
            self.assertEqual(listed(small_ends(hall)), small_ends(other))
            self.assertEqual(len(turns(hall)), len(turns(other)))
            room = drawn_room(self.dice, hall)
            prices = tuple([self.dice.randint(0, 9) for _ in range(len(hall))])
            self.assertEqual(cheapest(hall, prices, room)[0], cheapest(other, numbers(prices), numbers(room))[0])
            self.assertEqual(dearest_short(hall, prices, room), dearest_short(other, numbers(prices), numbers(room)))
            self.assertIs(one_price(hall, prices), one_price(other, numbers(prices)))

    def test_flat_halls(self):
        for _ in range(20):
            hall = drawn_flat(self.dice)
            other, place, numbers, _, listed = self.draw(hall)
            start = random_numbers(self.dice, hall, 3)
            self.assertEqual(level(hall, start), level(other, numbers(start)))
            self.assertEqual(presses_far(hall, start), presses_far(other, numbers(start)))
            self.assertIs(comes_back(hall, start), comes_back(other, numbers(start)))
            self.assertEqual(listed(arrows_to(hall, 5)), sorted(arrows_to(other, 5)))
            self.assertEqual(rooms_at(hall, 12), rooms_at(other, 12))
            word = tuple([self.dice.randrange(len(hall)) for _ in range(4)])
            word = word + word[::-1] if self.dice.random() < 0.5 else word
            shift = shift_of(hall, word)
            self.assertEqual(numbers(shift), shift_of(other, tuple(map(place, word))))
            if shift is not None:
                self.assertEqual(numbers(shifted(hall, start, shift)), shifted(other, numbers(start), numbers(shift)))
            if level(hall, start) == 0:
                self.assertEqual(listed(ring_numbers(hall, start)), ring_numbers(other, numbers(start)))

    def test_logs(self):
        for _ in range(20):
            hall = self.dice.choice([drawn_ending(self.dice, 3), random_hall(self.dice, 3)])
            other, place, numbers, _, listed = self.draw(hall)
            start = random_numbers(self.dice, hall, 2)
            lamp, seen = self.dice.randrange(len(hall)), self.dice.randrange(len(hall))
            log = (("lost",), ("seen", seen, 1), ("pressed", lamp), ("lost",))
            again = (("lost",), ("seen", place(seen), 1), ("pressed", place(lamp)), ("lost",))
            self.assertEqual(count_fits(hall, start, log), count_fits(other, numbers(start), again))
            self.assertEqual(listed(numbers_behind(hall, start, log)), numbers_behind(other, numbers(start), again))
            self.assertEqual(numbers(times_pressed(hall, start, log)), times_pressed(other, numbers(start), again))
            self.assertEqual(listed(starts_told(hall, log, 1)), starts_told(other, again, 1))
            self.assertEqual(doubted(hall, start, log), doubted(other, numbers(start), again))


if __name__ == "__main__":
    unittest.main()
