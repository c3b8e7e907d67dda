"""Stage 4: sets of posts that just enough people can take, and the people who are needed."""

from sparehands.houses import is_ascending, sets_of_posts, takers


def tight_sets(house, gone):
    """Return, in ascending order, all tight sets."""
    return [posts for posts in sets_of_posts(house) if is_tight(house, gone, posts)]


def greatest_tight(house, gone):
    """Return, ascending, all posts that are in some tight set."""
    return tuple(sorted({post for posts in tight_sets(house, gone) for post in posts}))


def least_tight(house, gone, post):
    """Return the tight set that has the post and is within each other one that has it, or None."""
    # What two tight sets with the post have together is tight, so only one of them has the fewest posts.
    return min([posts for posts in tight_sets(house, gone) if post in posts], key=len, default=None)


def needed_people(house, gone):
    """Return, ascending, all people who are needed."""
    return takers(house, gone, greatest_tight(house, gone))


def is_reason(house, gone, person, value):
    """Return whether a value of any kind is a tight set with the person among its takers."""
    # The empty tuple needs no test of its own: it has no takers.
    return is_ascending(value, len(house[1])) and is_tight(house, gone, value) and person in takers(house, gone, value)


def is_tight(house, gone, posts):
    """Return whether just as many people can take the posts together as there are of them."""
    return len(takers(house, gone, posts)) == len(posts)
