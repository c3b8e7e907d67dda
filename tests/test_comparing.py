"""Stage 17, point [20]."""

import unittest
from random import Random

from sparehands.comparing import bears_as_much, find_only, find_worse, tidied
from tests.playing import fitting
from tests.trying import (
    CHAIN,
    PAIRS,
    WIDE,
    ascending_by_words,
    ascending_tuples,
    house_by_words,
    houses,
    roster_by_words,
    some_of,
)

ALL = (3, ((0, 1, 2), (0, 1, 2)))
EMPTY = (3, ())


def tidied_by_trying(house):
    rosters = fitting(house, ())
    return (house[0], tuple(tuple(sorted({row[k] for row in rosters})) for k in range(len(house[1]))))


def worse_by_trying(one, other):
    """All gone for which one is worse than other."""
    all_gone = ascending_tuples(range(one[0]))
    return [gone for gone in all_gone if fitting(other, gone) and not fitting(one, gone)]


def with_a_pair_changed(house):
    """All houses that have a pair more or less."""
    people, posts = house
    for k in range(len(posts)):
        for person in range(people):
            row = set(posts[k]) ^ {person}
            yield people, posts[:k] + (tuple(sorted(row)),) + posts[k + 1:]


def pairs_of_houses():
    """Pairs of houses with equal numbers of people and of posts."""
    for people, posts in ((1, 0), (3, 0), (1, 1), (2, 1), (1, 2), (2, 2), (3, 1)):
        for one in houses(people, posts):
            for other in houses(people, posts):
                yield one, other
    for one in [*houses(3, 2), PAIRS, WIDE, CHAIN, (3, ((0,), (0,), (0, 1, 2)))]:
        for other in with_a_pair_changed(one):
            yield one, other
    chance = Random(17)
    for _ in range(400):
        people, posts = chance.randint(2, 5), chance.randint(1, 4)
        part = chance.choice((0.4, 0.6, 0.8))
        yield tuple((people, tuple(some_of(chance, people, part) for _ in range(posts))) for _ in range(2))


class Comparing(unittest.TestCase):
    def test_examples(self):
        self.assertEqual(tidied((3, ((0, 1), (0,), (1, 2)))), (3, ((1,), (0,), (2,))))
        self.assertEqual(tidied((2, ((0,), (0,)))), (2, ((), ())))
        self.assertEqual(tidied(PAIRS), PAIRS)
        self.assertIsNone(find_only(PAIRS, ALL))
        self.assertIs(bears_as_much(PAIRS, ALL), True)
        self.assertEqual(find_worse((3, ((0,), (0, 1, 2))), ALL), (0,))
        self.assertIs(bears_as_much(ALL, PAIRS), True)

    def test_no_posts(self):
        self.assertEqual(tidied(EMPTY), EMPTY)
        self.assertIsNone(find_only(EMPTY, EMPTY))
        self.assertIsNone(find_worse(EMPTY, EMPTY))
        self.assertIs(bears_as_much(EMPTY, EMPTY), True)

    def test_no_roster(self):
        # One of them has no roster, or both have none.
        none = (3, ((0,), (0,)))
        self.assertIsNone(find_only(none, PAIRS))
        self.assertTrue(roster_by_words(PAIRS, (), find_only(PAIRS, none)))
        self.assertIsNone(find_worse(PAIRS, none))
        self.assertIn(find_worse(none, PAIRS), worse_by_trying(none, PAIRS))
        self.assertIs(bears_as_much(PAIRS, none), True)
        self.assertIs(bears_as_much(none, PAIRS), False)
        other = (3, ((), (0, 1, 2)))
        for one, two in ((none, other), (other, none), (none, none)):
            self.assertIsNone(find_only(one, two))
            self.assertIs(bears_as_much(one, two), True)

    def test_more_posts_than_people(self):
        one, other = (2, ((0, 1), (0, 1), (0, 1))), (2, ((0,), (1,), (0, 1)))
        for this, that in ((one, other), (other, one)):
            self.assertEqual(tidied(this), (2, ((), (), ())))
            self.assertIsNone(find_only(this, that))
            self.assertIsNone(find_worse(this, that))

    def test_equal_rosters(self):
        # Nobody but 0 can take post 1, so that 0 never stands at post 0.
        one, other = (3, ((0, 1, 2), (0,))), (3, ((1, 2), (0,)))
        self.assertIsNone(find_only(one, other))
        self.assertIsNone(find_only(other, one))
        self.assertIsNone(find_worse(one, other))
        self.assertIsNone(find_worse(other, one))
        self.assertEqual(tidied(one), other)
        self.assertEqual(tidied(other), other)

    def test_worse_though_it_has_more_rosters(self):
        # Both of one's posts need somebody of 0, 1 and 2; other has few rosters, but one without 0 and 1.
        one, other = (4, ((0, 1, 2), (0, 1, 2))), (4, ((2,), (3,)))
        self.assertGreater(len(fitting(one, ())), len(fitting(other, ())))
        self.assertEqual(find_worse(one, other), (0, 1))
        self.assertIs(bears_as_much(one, other), False)
        self.assertIs(bears_as_much(other, one), False)

    def test_the_tidy_house_against_all_rosters(self):
        chance = Random(18)
        several = [house for people, posts in ((1, 1), (2, 2), (3, 2), (3, 3), (2, 3)) for house in houses(people, posts)]
        for _ in range(150):
            people = chance.randint(4, 7)
            several.append((people, tuple(some_of(chance, people, 0.4) for _ in range(chance.randint(2, 5)))))
        changed = 0
        for house in several:
            tidy = tidied(house)
            self.assertEqual(tidy, tidied_by_trying(house), house)
            self.assertTrue(house_by_words(tidy))
            self.assertEqual(tidied(tidy), tidy)
            changed += tidy != house
            for gone in ascending_tuples(range(house[0]))[:20]:
                self.assertEqual(fitting(tidy, gone), fitting(house, gone))
        self.assertGreater(changed, 100)
        self.assertGreater(len(several) - changed, 20)

    def test_rosters_of_only_one_against_all_rosters(self):
        told = {None: 0, True: 0}
        for one, other in pairs_of_houses():
            only = [roster for roster in fitting(one, ()) if roster not in fitting(other, ())]
            found = find_only(one, other)
            if found is None:
                self.assertEqual(only, [], (one, other))
            else:
                self.assertIn(found, only, (one, other))
                self.assertTrue(roster_by_words(one, (), found))
                self.assertFalse(roster_by_words(other, (), found))
            told[None if found is None else True] += 1
        self.assertGreater(min(told.values()), 300)

    def test_worse_houses_against_all_who_may_be_gone(self):
        told = {True: 0, False: 0}
        for one, other in pairs_of_houses():
            worse = worse_by_trying(one, other)
            found = find_worse(one, other)
            if found is None:
                self.assertEqual(worse, [], (one, other))
            else:
                self.assertTrue(ascending_by_words(found, one[0]))
                self.assertIn(found, worse, (one, other))
            self.assertIs(bears_as_much(one, other), found is None)
            told[found is None] += 1
        self.assertGreater(min(told.values()), 300)

    def test_equal_tidy_houses_have_equal_rosters(self):
        equal = 0
        for one, other in pairs_of_houses():
            if fitting(one, ()) or fitting(other, ()):
                same = tidied(one) == tidied(other)
                self.assertEqual(same, find_only(one, other) is None and find_only(other, one) is None)
                equal += same
        self.assertGreater(equal, 50)

    def test_at_the_limits(self):
        everybody = (10, (tuple(range(10)),) * 6)
        few = (10, (tuple(range(9)),) * 6)
        self.assertEqual(tidied(everybody), everybody)
        self.assertIsNone(find_worse(everybody, everybody))
        self.assertIsNone(find_worse(everybody, few))
        found = find_worse(few, everybody)
        self.assertEqual(len(found), 4)
        self.assertNotIn(9, found)
        self.assertIn(9, find_only(everybody, few))
        self.assertIsNone(find_only(few, everybody))
