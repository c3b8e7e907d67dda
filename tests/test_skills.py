"""Stage 14, point [17]."""

import unittest
from copy import deepcopy
from random import Random

from sparehands.skills import (
    choice_cost,
    find_skill_book,
    find_skills,
    is_skill_book,
    learned,
    least_skill_cost,
    missing_pairs,
)
from tests.learning import (
    chance_houses,
    choice_cost_by_words,
    choices_by_trying,
    good_choices_by_trying,
    learned_by_words,
    missing_by_words,
    skill_book_by_words,
    some_skill_costs,
)
from tests.trying import CHAIN, PAIRS, WIDE, ascending_tuples, house_by_words, houses, lists_and_dicts, odd_values, variants

LEARN = ((3, 3, 5), (5, 3, 3))
ALONE = (2, ((0,), (0,)))
ALONE_COSTS = ((3, 4), (3, 5))
EMPTY = (3, ())
NOBODY = (6, ((), (), (), ()))
EQUAL = ((3,) * 6,) * 4


def small_houses():
    for people, posts in ((1, 0), (3, 0), (1, 1), (1, 2), (2, 1), (2, 2), (2, 3), (3, 1), (3, 2)):
        yield from houses(people, posts)
    yield from (PAIRS, WIDE, CHAIN)


def reordered(value):
    """An equal book, in which the keys of all dicts were put in in another order."""
    posts, pages = value
    return posts, {pair: reordered(pages[pair]) for pair in reversed(list(pages))}


class Pairs(unittest.TestCase):
    def test_examples(self):
        self.assertEqual(missing_pairs(PAIRS), [(0, 2), (1, 0)])
        self.assertEqual(learned(PAIRS, ((0, 2),)), (3, ((0, 1, 2), (1, 2))))
        self.assertEqual(choice_cost(LEARN, ((0, 2), (1, 0))), 10)

    def test_no_posts(self):
        self.assertEqual(missing_pairs(EMPTY), [])
        self.assertEqual(learned(EMPTY, ()), EMPTY)
        self.assertEqual(choice_cost((), ()), 0)

    def test_no_missing_pair(self):
        self.assertEqual(missing_pairs(WIDE), [])
        self.assertEqual(learned(WIDE, ()), WIDE)
        self.assertEqual(choice_cost(((9,) * 4,) * 2, ()), 0)

    def test_posts_that_nobody_can_take(self):
        self.assertEqual(missing_pairs((2, ((), (1,)))), [(0, 0), (0, 1), (1, 0)])
        self.assertEqual(learned((2, ((), (1,))), ((0, 0), (0, 1), (1, 0))), (2, ((0, 1), (0, 1))))

    def test_who_learns_stands_where_it_is_ascending(self):
        self.assertEqual(learned((4, ((1, 3), (0,))), ((0, 0), (0, 2), (1, 3))), (4, ((0, 1, 2, 3), (0, 3))))

    def test_against_the_words(self):
        chance = Random(7)
        for house in [*small_houses(), *chance_houses(40, 4, 6, 4)]:
            costs = some_skill_costs(chance, house)
            self.assertEqual(missing_pairs(house), missing_by_words(house))
            for choice in choices_by_trying(house, 3)[::7]:
                found = learned(house, choice)
                self.assertEqual(found, learned_by_words(house, choice))
                self.assertTrue(house_by_words(found))
                self.assertEqual(choice_cost(costs, choice), choice_cost_by_words(costs, choice))


class SkillsOrBook(unittest.TestCase):
    def test_examples(self):
        self.assertEqual(find_skills(PAIRS, 1, LEARN, 0), ())
        self.assertIsNone(least_skill_cost(PAIRS, 2, LEARN))
        self.assertIsNone(find_skill_book(PAIRS, 1, LEARN, 3))
        self.assertEqual(least_skill_cost(ALONE, 0, ALONE_COSTS), 4)
        self.assertEqual(find_skills(ALONE, 0, ALONE_COSTS, 4), ((0, 1),))

    def told(self, house, f, costs, d, good):
        """Whether there is a choice, after both sides were held against all good choices."""
        case = (house, f, costs, d)
        within = [choice for choice in good if choice_cost_by_words(costs, choice) <= d]
        choice = find_skills(house, f, costs, d)
        book = find_skill_book(house, f, costs, d)
        self.assertEqual(choice is None, book is not None, case)
        if choice is None:
            self.assertEqual(within, [], case)
            self.assertTrue(skill_book_by_words(house, f, costs, d, book), (case, book))
            self.assertIs(is_skill_book(house, f, costs, d, book), True, (case, book))
        else:
            self.assertIn(choice, within, case)
        parts = lists_and_dicts(book)
        self.assertEqual(len({id(part) for part in parts}), len(parts), case)
        return choice is not None

    def all_told(self, house, costs):
        """For f from 0 to 3 the least cost."""
        least = []
        for f in range(4):
            good = good_choices_by_trying(house, f)
            can = [self.told(house, f, costs, d, good) for d in range(10)]
            self.assertEqual(can, sorted(can))
            least.append(least_skill_cost(house, f, costs))
            self.assertEqual(least[-1], can.index(True) if True in can else None, (house, f, costs))
            self.assertEqual(
                least[-1],
                min([cost for cost in (choice_cost_by_words(costs, row) for row in good) if cost <= 9], default=None))
        return least

    def test_small_houses_against_all_choices(self):
        chance = Random(14)
        told = set()
        for house in small_houses():
            for _ in range(2):
                told |= set(self.all_told(house, some_skill_costs(chance, house)))
        self.assertEqual(told, {None, 0, 3, 4, 5, 6, 7, 8, 9})

    def test_small_houses_with_equal_costs(self):
        for house in small_houses():
            for cost in (3, 4, 9):
                least = self.all_told(house, ((cost,) * house[0],) * len(house[1]))
                self.assertLessEqual(set(least), {None, *range(0, 10, cost)})

    def test_middle_houses_against_all_choices(self):
        chance = Random(15)
        told = []
        for house in chance_houses(40, 4, 5, 3):
            told += self.all_told(house, some_skill_costs(chance, house))
        self.assertLessEqual({None, 0, 3, 6, 9}, set(told))

    def test_large_houses_against_all_choices(self):
        chance = Random(16)
        for house in list(chance_houses(30, 6, 6, 4))[::4]:
            costs = tuple(tuple(chance.choice((3, 3, 4, 5)) for _ in range(6)) for _ in house[1])
            self.all_told(house, costs)

    def test_houses_that_need_three_skills(self):
        house = (6, ((0,), (0,), (0,), (0,)))
        self.assertEqual(self.all_told(house, EQUAL), [9, None, None, None])
        house = (4, ((0, 1), (0, 1)))
        self.assertEqual(self.all_told(house, ((3, 3, 3, 4), (3, 3, 3, 5))), [0, 3, 7, None])
        self.assertEqual(self.all_told((6, ((), (0, 1, 2, 3, 4, 5))), EQUAL[:2]), [3, 6, 9, None])

    def test_no_posts(self):
        for f in range(4):
            for d in range(10):
                self.assertEqual(find_skills(EMPTY, f, (), d), ())
                self.assertIsNone(find_skill_book(EMPTY, f, (), d))
            self.assertEqual(least_skill_cost(EMPTY, f, ()), 0)

    def test_no_missing_pair(self):
        costs = ((3,) * 4,) * 2
        for d in range(10):
            for f in (0, 1, 2):
                self.assertEqual(find_skills(WIDE, f, costs, d), ())
                self.assertIsNone(find_skill_book(WIDE, f, costs, d))
            self.assertIsNone(find_skills(WIDE, 3, costs, d))
            self.assertEqual(find_skill_book(WIDE, 3, costs, d), ((0, 1), {}))
        self.assertEqual([least_skill_cost(WIDE, f, costs) for f in range(4)], [0, 0, 0, None])

    def test_more_posts_than_people(self):
        costs = ((3, 3),) * 3
        for posts in (((), (), ()), ((0, 1), (0, 1), (0, 1)), ((0,), (1,), ())):
            for f in range(4):
                self.assertIsNone(least_skill_cost((2, posts), f, costs))
                self.assertIsNone(find_skills((2, posts), f, costs, 9))
                book = find_skill_book((2, posts), f, costs, 9)
                self.assertTrue(skill_book_by_words((2, posts), f, costs, 9, book))

    def test_at_the_limits(self):
        for f in range(4):
            book = find_skill_book(NOBODY, f, EQUAL, 9)
            self.assertTrue(skill_book_by_words(NOBODY, f, EQUAL, 9, book))
            self.assertIs(is_skill_book(NOBODY, f, EQUAL, 9, book), True)
            self.assertIsNone(find_skills(NOBODY, f, EQUAL, 9))
            self.assertIsNone(least_skill_cost(NOBODY, f, EQUAL))

    def test_somewhat_beyond_the_limits(self):
        house = (7, ((0, 1, 2, 3, 4),) * 5)
        self.assertEqual(least_skill_cost(house, 1, ((3,) * 7,) * 5), 3)
        self.assertEqual(find_skills(NOBODY, 0, EQUAL, 11), None)
        choice = find_skills(NOBODY, 0, EQUAL, 12)
        self.assertIn(choice, choices_by_trying(NOBODY, 4))
        self.assertEqual(sorted(post for post, _ in choice), [0, 1, 2, 3])
        self.assertEqual(len({person for _, person in choice}), 4)
        self.assertEqual(find_skills((5, ((0,),)), 4, ((3,) * 5,), 12), ((0, 1), (0, 2), (0, 3), (0, 4)))

    def test_told_books_may_be_changed(self):
        changed = 0
        for house in small_houses():
            costs = ((4,) * house[0],) * len(house[1])
            for f, d in ((0, 3), (1, 5), (2, 9)):
                told = find_skill_book(house, f, costs, d)
                before = deepcopy(told)
                for part in lists_and_dicts(told):
                    part.clear()
                    part["changed"] = None
                    changed += 1
                self.assertEqual(find_skill_book(house, f, costs, d), before)
        self.assertGreater(changed, 300)


class Books(unittest.TestCase):
    def told(self, house, f, costs, d, value):
        """Whether it is a book, after that was held against the words."""
        expected = skill_book_by_words(house, f, costs, d, value)
        self.assertIs(is_skill_book(house, f, costs, d, value), expected, (house, f, costs, d, repr(value)[:300]))
        return expected

    def books(self):
        """Told books of some houses, as (house, f, costs, d, book)."""
        chance = Random(17)
        for house in [*list(small_houses())[::3], *chance_houses(15, 4, 5, 3)]:
            costs = some_skill_costs(chance, house)
            for f in range(4):
                for d in (0, 3, 5, 8, 9):
                    book = find_skill_book(house, f, costs, d)
                    if book is not None:
                        yield house, f, costs, d, book

    def test_examples(self):
        self.assertIs(is_skill_book(ALONE, 0, ALONE_COSTS, 3, ((0, 1), {})), True)
        self.assertIs(is_skill_book(ALONE, 0, ALONE_COSTS, 4, ((0, 1), {})), False)

    def test_parts_that_are_wrong(self):
        house, costs = (3, ((0,), ())), ((3, 4, 9), (3, 4, 9))
        good = ((0, 1), {(0, 1): ((1,), {}), (1, 1): ((0, 1), {})})
        for value, expected in (
            (good, True),
            (((0, 1), {(1, 1): ((0, 1), {}), (0, 1): ((1,), {})}), True),  # the order of keys means nothing
            (((0, 1), {(0, 1): ((0, 1), {}), (1, 1): ((0,), {})}), True),
            (((0,), {(0, 1): ((0,), {})}), False),  # with 1, too, post 0 has one to spare
            (((1,), good[1]), False),
            (((0, 1), {(0, 1): ((1,), {})}), False),  # too few pages
            (((0, 1), {}), False),
            (((0, 1), {**good[1], (0, 2): ((1,), {})}), False),  # too many: it costs 9
            (((0, 1), {**good[1], (1, 0): ((0,), {})}), False),  # 0 is one of the takers
            (((0, 1), {**good[1], (2, 1): ((0,), {})}), False),
            (((0, 1), {**good[1], None: ((0,), {})}), False),
            (((0, 1), {**good[1], 1: ((0,), {})}), False),
            (((0, 1), {(False, 1): ((1,), {}), (1, 1): ((0, 1), {})}), False),
            (((0, 1), {(0, True): ((1,), {}), (1, 1): ((0, 1), {})}), False),
            (((0, 1), {(0, 1): ((1,), {}), (True, 1): ((0, 1), {})}), False),
            (((0, 1), {(0, 1, 0): ((1,), {}), (1, 1): ((0, 1), {})}), False),
            (((0, 1), {(0,): ((1,), {}), (1, 1): ((0, 1), {})}), False),
            (((0, 1), {"01": ((1,), {}), (1, 1): ((0, 1), {})}), False),
            (((0, 1), {(0, 1): None, (1, 1): ((0, 1), {})}), False),  # a page that is no book
            (((0, 1), {(0, 1): ((1,), None), (1, 1): ((0, 1), {})}), False),
            (((0, 1), {(0, 1): ((), {}), (1, 1): ((0, 1), {})}), False),
            (((0, 1), {(0, 1): ((0,), {}), (1, 1): ((0, 1), {})}), False),
            (((1, 0), good[1]), False),  # no ascending tuple of posts
            (((0, 0), good[1]), False),
            (((0, 1, 2), good[1]), False),
            (((False, 1), good[1]), False),
            (((0, True), good[1]), False),
            (([0, 1], good[1]), False),
            ((None, good[1]), False),
            (("01", good[1]), False),
            (((), {}), False),
            (((0, 1), list(good[1].items())), False),
            (((0, 1), tuple(good[1])), False),
            (((0, 1), None), False),
            (((0, 1),), False),
            ((*good, None), False),
            (list(good), False),
            ({good[0]: good[1]}, False),
            (None, False),
            ((), False),
        ):
            self.assertIs(is_skill_book(house, 1, costs, 5, value), expected, value)
            self.told(house, 1, costs, 5, value)

    def test_any_narrow_set(self):
        # Post 1 alone is narrow, too, and has more pairs to learn.
        house, costs = (3, ((0,), ())), ((3, 4, 9), (3, 4, 9))
        pages = {(1, 0): ((0,), {}), (1, 1): ((1,), {})}
        self.assertIs(is_skill_book(house, 1, costs, 5, ((1,), pages)), True)
        self.assertIs(is_skill_book(house, 1, costs, 5, ((0, 1), pages)), False)
        self.assertIs(is_skill_book(house, 1, costs, 5, ((1,), {(1, 1): ((1,), {})})), False)

    def test_the_budget_of_a_page(self):
        # A pair may cost just the budget, and each page has so much less of it as its pair costs.
        house, costs = (3, ((), ())), ((3, 4, 9), (9, 9, 3))
        self.assertIs(is_skill_book(house, 0, costs, 2, ((0,), {})), True)
        self.assertIs(is_skill_book(house, 0, costs, 3, ((0,), {})), False)
        self.assertIs(is_skill_book(house, 0, costs, 3, ((0,), {(0, 0): ((1,), {})})), True)
        self.assertIs(is_skill_book(house, 0, costs, 5, ((0,), {(0, 0): ((1,), {}), (0, 1): ((1,), {})})), True)
        self.assertIs(is_skill_book(house, 0, costs, 6, ((0,), {(0, 0): ((1,), {}), (0, 1): ((1,), {})})), False)
        self.assertIs(is_skill_book(house, 0, costs, 5, ((1,), {(1, 2): ((0,), {})})), True)
        self.assertEqual(find_skills(house, 0, costs, 6), ((0, 0), (1, 2)))

    def test_books_for_another_f_or_d(self):
        right = wrong = 0
        for house, _, costs, _, book in list(self.books())[::3]:
            for other in range(4):
                for budget in range(10):
                    told = self.told(house, other, costs, budget, book)
                    right, wrong = right + told, wrong + (not told)
        self.assertGreater(min(right, wrong), 500)

    def test_books_for_another_house_or_other_costs(self):
        right = wrong = 0
        for house, f, costs, d, book in list(self.books())[::7]:
            others = [learned_by_words(house, [pair]) for pair in missing_by_words(house)]
            for other in others:
                told = self.told(other, f, costs, d, book)
                right, wrong = right + told, wrong + (not told)
            for cost in (3, 6, 9):
                self.told(house, f, ((cost,) * house[0],) * len(house[1]), d, book)
        self.assertGreater(min(right, wrong), 20)

    def test_pages_and_sets_exchanged(self):
        right = wrong = 0
        for house, f, costs, d, (posts, pages) in self.books():
            values = [(other, pages) for other in ascending_tuples(range(len(house[1])))]
            for pair in pages:
                values.append((posts, {key: pages[key] for key in pages if key != pair}))
                values += [(posts, {**pages, pair: pages[other]}) for other in pages]
                values.append((posts, {**pages, pair: (posts, pages)}))
            values += [(posts, {**pages, pair: ((0,), {})}) for pair in missing_by_words(house)]
            for value in values:
                told = self.told(house, f, costs, d, value)
                right, wrong = right + told, wrong + (not told)
        self.assertGreater(min(right, wrong), 500)

    def test_keys_put_in_in_another_order(self):
        for house, f, costs, d, book in self.books():
            self.assertTrue(self.told(house, f, costs, d, reordered(book)))

    def test_variants(self):
        right = 0
        for house, f, costs, d in (
                (ALONE, 0, ALONE_COSTS, 3), (ALONE, 1, ALONE_COSTS, 4), (PAIRS, 2, LEARN, 9), (PAIRS, 2, LEARN, 2),
                (PAIRS, 3, LEARN, 6), ((2, ((), (1,))), 0, ((3, 3), (3, 3)), 2), ((3, ((0,), ())), 1, ((3, 4, 9),) * 2, 5)):
            for value in variants(find_skill_book(house, f, costs, d)):
                right += self.told(house, f, costs, d, value)
        self.assertGreater(right, 5)

    def test_any_value(self):
        for odd in odd_values():
            for house, f, costs, d in ((ALONE, 0, ALONE_COSTS, 3), (ALONE, 1, ALONE_COSTS, 9), (PAIRS, 2, LEARN, 4)):
                for value in (odd, (odd, {}), ((0, 1), odd), (odd, odd), ((0,), {(0, 1): odd}), ((0,), {(0, 1): ((1,), odd)})):
                    self.told(house, f, costs, d, value)
            self.assertIs(is_skill_book(EMPTY, 1, (), 3, odd), False)
            self.assertIs(is_skill_book(EMPTY, 1, (), 3, (odd, {})), False)

    def test_any_key(self):
        house, costs = (3, ((0,), ())), ((3, 4, 9), (3, 4, 9))
        for key in odd_values():
            if not lists_and_dicts(key):
                self.told(house, 1, costs, 5, ((0, 1), {key: ((1,), {}), (1, 1): ((0, 1), {})}))
                self.told(house, 1, costs, 5, ((0, 1), {(0, 1): ((1,), {}), key: ((0, 1), {})}))
                self.told(house, 1, costs, 5, ((0, 1), {(0, 1): ((1,), {}), (1, 1): ((0, 1), {}), key: ((0, 1), {})}))

    def test_values_are_unchanged(self):
        for house, f, costs, d, book in self.books():
            before = repr(book)
            self.told(house, f, costs, d, book)
            self.assertEqual(repr(book), before)
