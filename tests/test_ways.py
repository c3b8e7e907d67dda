"""Stage 11, point [14]."""

import unittest
from itertools import combinations, permutations
from random import Random

from sparehands.nearest import moves_apart
from sparehands.ways import mixed_rosters, parts_between, step_by_step, with_parts
from tests.playing import fitting
from tests.trying import CHAIN, PAIRS, WIDE, houses, roster_by_words, rosters_by_trying, some_of


def way_by_words(one, other, posts):
    follow = all(other[p] == one[q] for p, q in zip(posts, posts[1:]))
    return follow and one[posts[0]] not in other and other[posts[-1]] not in one


def ring_by_words(one, other, posts):
    follow = all(other[p] == one[q] for p, q in zip(posts, posts[1:] + posts[:1]))
    return follow and posts[0] == min(posts)


def parts_by_trying(one, other):
    """All ways and rings, ascending by their least posts."""
    differing = [k for k in range(len(one)) if one[k] != other[k]]
    rows = [row for size in range(1, len(differing) + 1) for row in permutations(differing, size)]
    parts = [("way", row) for row in rows if way_by_words(one, other, row)]
    parts += [("ring", row) for row in rows if ring_by_words(one, other, row)]
    return sorted(parts, key=lambda part: min(part[1]))


def with_parts_by_words(one, other, chosen):
    roster = list(one)
    for _, posts in chosen:
        for post in posts:
            roster[post] = other[post]
    return tuple(roster)


def steps_by_words(one, other):
    parts = parts_by_trying(one, other)
    if any(kind == "ring" for kind, _ in parts):
        return None
    steps = [one]
    for _, posts in parts:
        for post in reversed(posts):
            roster = list(steps[-1])
            roster[post] = other[post]
            steps.append(tuple(roster))
    return steps


def pairs_of_rosters():
    """Pairs of rosters of a house, as (house, one, other): all of small houses, some of large ones."""
    small = [house for people, posts in ((1, 0), (1, 1), (2, 2), (3, 2)) for house in houses(people, posts)]
    for house in [*small, PAIRS, WIDE, CHAIN, (4, (tuple(range(4)),) * 4), (5, (tuple(range(5)),) * 3)]:
        for one in fitting(house, ()):
            for other in fitting(house, ()):
                yield house, one, other
    chance = Random(11)
    for _ in range(60):
        people = chance.randint(5, 7)
        house = (people, tuple(some_of(chance, people, 0.7) for _ in range(chance.randint(4, 6))))
        rosters = rosters_by_trying(house, ())
        for _ in range(5 if rosters else 0):
            yield house, chance.choice(rosters), chance.choice(rosters)


class Ways(unittest.TestCase):
    def test_examples(self):
        self.assertEqual(parts_between((0, 1, 2), (1, 2, 3)), [("way", (0, 1, 2))])
        self.assertEqual(parts_between((0, 1), (1, 0)), [("ring", (0, 1))])
        self.assertEqual(parts_between((0, 1), (2, 3)), [("way", (0,)), ("way", (1,))])
        self.assertEqual(parts_between((0, 1), (0, 1)), [])
        self.assertEqual(step_by_step((0, 1, 2), (1, 2, 3)), [(0, 1, 2), (0, 1, 3), (0, 2, 3), (1, 2, 3)])
        self.assertIsNone(step_by_step((0, 1), (1, 0)))
        self.assertEqual(with_parts((0, 1), (2, 3), [("way", (1,))]), (0, 3))
        self.assertEqual(mixed_rosters((0, 1), (2, 3)), [(0, 1), (0, 3), (2, 1), (2, 3)])

    def test_no_posts(self):
        self.assertEqual(parts_between((), ()), [])
        self.assertEqual(with_parts((), (), []), ())
        self.assertEqual(step_by_step((), ()), [()])
        self.assertEqual(mixed_rosters((), ()), [()])

    def test_equal_rosters(self):
        for roster in ((0,), (3, 1), (0, 1, 2, 3, 4, 5)):
            self.assertEqual(parts_between(roster, roster), [])
            self.assertEqual(with_parts(roster, roster, []), roster)
            self.assertEqual(step_by_step(roster, roster), [roster])
            self.assertEqual(mixed_rosters(roster, roster), [roster])

    def test_a_way_whose_first_post_is_not_its_least_one(self):
        one, other = (0, 1, 2), (3, 0, 1)
        self.assertEqual(parts_between(one, other), [("way", (2, 1, 0))])
        self.assertEqual(step_by_step(one, other), [(0, 1, 2), (3, 1, 2), (3, 0, 2), (3, 0, 1)])
        one, other = (0, 1, 2, 3), (1, 4, 0, 5)
        self.assertEqual(parts_between(one, other), [("way", (2, 0, 1)), ("way", (3,))])
        self.assertEqual(
            step_by_step(one, other), [(0, 1, 2, 3), (0, 4, 2, 3), (1, 4, 2, 3), (1, 4, 0, 3), (1, 4, 0, 5)])

    def test_two_ways_that_lie_in_each_other(self):
        # The first way has the least post, although the second one begins before it.
        one, other = (0, 1, 2, 3), (4, 5, 1, 0)
        self.assertEqual(parts_between(one, other), [("way", (3, 0)), ("way", (2, 1))])
        self.assertEqual(
            step_by_step(one, other), [(0, 1, 2, 3), (4, 1, 2, 3), (4, 1, 2, 0), (4, 5, 2, 0), (4, 5, 1, 0)])
        self.assertEqual(mixed_rosters(one, other), [(0, 1, 2, 3), (0, 5, 1, 3), (4, 1, 2, 0), (4, 5, 1, 0)])

    def test_rings(self):
        self.assertEqual(parts_between((0, 1, 2), (1, 2, 0)), [("ring", (0, 1, 2))])
        self.assertEqual(parts_between((0, 1, 2), (2, 0, 1)), [("ring", (0, 2, 1))])
        self.assertEqual(parts_between((5, 0, 1, 2), (5, 2, 0, 1)), [("ring", (1, 3, 2))])
        self.assertEqual(parts_between((0, 1, 2, 3), (3, 2, 1, 0)), [("ring", (0, 3)), ("ring", (1, 2))])
        self.assertIsNone(step_by_step((0, 1, 2, 3), (3, 2, 1, 0)))
        self.assertEqual(
            mixed_rosters((0, 1, 2, 3), (3, 2, 1, 0)), [(0, 1, 2, 3), (0, 2, 1, 3), (3, 1, 2, 0), (3, 2, 1, 0)])

    def test_a_ring_and_ways(self):
        one, other = (0, 1, 2, 3, 4, 5), (6, 2, 1, 3, 5, 7)
        parts = [("way", (0,)), ("ring", (1, 2)), ("way", (4, 5))]
        self.assertEqual(parts_between(one, other), parts)
        self.assertIsNone(step_by_step(one, other))
        self.assertEqual(with_parts(one, other, [parts[2], parts[0]]), (6, 1, 2, 3, 5, 7))
        self.assertEqual(with_parts(one, other, [parts[1]]), (0, 2, 1, 3, 4, 5))
        self.assertEqual(with_parts(one, other, []), one)
        self.assertEqual(with_parts(one, other, parts[::-1]), other)
        self.assertEqual(len(mixed_rosters(one, other)), 8)

    def test_against_all_ways_and_rings(self):
        kinds = {}
        for _, one, other in pairs_of_rosters():
            parts = parts_between(one, other)
            self.assertEqual(parts, parts_by_trying(one, other), (one, other))
            self.assertEqual(
                sorted(post for _, posts in parts for post in posts), [k for k in range(len(one)) if one[k] != other[k]])
            told = (min([kind for kind, _ in parts].count("way"), 2), min([kind for kind, _ in parts].count("ring"), 2))
            kinds[told] = kinds.get(told, 0) + 1
        # Nowhere, one way, more ways, a ring, two rings, ways and a ring.
        for told in ((0, 0), (1, 0), (2, 0), (0, 1), (0, 2), (1, 1), (2, 1)):
            self.assertGreaterEqual(kinds.get(told, 0), 2, told)

    def test_steps(self):
        told = {None: 0}
        for house, one, other in pairs_of_rosters():
            steps = step_by_step(one, other)
            self.assertEqual(steps, steps_by_words(one, other), (one, other))
            if steps is None:
                told[None] += 1
                continue
            self.assertEqual((steps[0], steps[-1]), (one, other))
            for before, after in zip(steps, steps[1:]):
                self.assertEqual(moves_apart(before, after), 1)
            gone = tuple(p for p in range(house[0]) if p not in one and p not in other)
            for step in steps:
                self.assertTrue(roster_by_words(house, gone, step), (house, one, other, step))
            told[len(steps)] = told.get(len(steps), 0) + 1
        self.assertLessEqual({1, 2, 3, 4, 5}, set(told))
        self.assertGreater(told[None], 100)

    def test_chosen_parts_in_any_order(self):
        for house, one, other in list(pairs_of_rosters())[::5]:
            parts = parts_between(one, other)
            gone = tuple(p for p in range(house[0]) if p not in one and p not in other)
            mixed = set()
            for size in range(len(parts) + 1):
                for some in combinations(parts, size):
                    expected = with_parts_by_words(one, other, some)
                    self.assertTrue(roster_by_words(house, gone, expected))
                    mixed.add(expected)
                    for chosen in [some, some[::-1], some[1:] + some[:1]]:
                        self.assertEqual(with_parts(one, other, list(chosen)), expected)
            self.assertEqual(len(mixed), 2 ** len(parts))
            self.assertEqual(mixed_rosters(one, other), sorted(mixed))

    def test_at_the_limits(self):
        self.assertEqual(len(mixed_rosters((0, 1, 2, 3), (4, 5, 6, 7))), 16)
        self.assertEqual(step_by_step((0, 1, 2, 3, 4, 5), (1, 2, 3, 4, 5, 6))[1], (0, 1, 2, 3, 4, 6))
        self.assertEqual(len(step_by_step((0, 1, 2, 3, 4, 5), (4, 5, 6, 7, 8, 9))), 7)
        self.assertEqual(
            parts_between((0, 1, 2, 3, 4, 5), (4, 5, 6, 7, 8, 9)),
            [("way", (0, 4)), ("way", (1, 5)), ("way", (2,)), ("way", (3,))])
