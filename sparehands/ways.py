"""Stage 11: ways and rings between two rosters of a house."""


def parts_between(one, other):
    """Return all ways and rings of the posts at which the rosters differ, ascending by their least posts."""
    differing = [post for post in range(len(one)) if one[post] != other[post]]
    parts = [("way", posts_from(one, other, post)) for post in differing if one[post] not in other]
    met = [post for _, posts in parts for post in posts]
    for post in differing:
        if post not in met:
            ring = posts_from(one, other, post)
            parts.append(("ring", ring))
            met = [*met, *ring]
    return sorted(parts, key=least_post)


def with_parts(one, other, chosen):
    """Return the roster with the people of the other one at the posts of the chosen parts."""
    taken = [post for _, posts in chosen for post in posts]
    return tuple([other[post] if post in taken else one[post] for post in range(len(one))])


def step_by_step(one, other):
    """Return rosters from one to the other that are one move apart each time, or None if there is a ring."""
    steps = [one]
    for kind, posts in parts_between(one, other):
        if kind == "ring":
            return None
        # The person who comes to a post has to leave the next post of the way before.
        for post in posts[::-1]:
            before = steps[-1]
            steps.append(before[:post] + (other[post],) + before[post + 1:])
    return steps


def mixed_rosters(one, other):
    """Return, in ascending order, all rosters that have the people of the other one in some of the parts."""
    rows = [one]
    for part in parts_between(one, other):
        rows = rows + [with_parts(row, other, [part]) for row in rows]
    return sorted(rows)


def posts_from(one, other, first):
    """Return the post, the one that the person who comes to it leaves, and so on, until nobody leaves one any more."""
    posts = [first]
    while other[posts[-1]] in one and one.index(other[posts[-1]]) != first:
        posts.append(one.index(other[posts[-1]]))
    return tuple(posts)


def least_post(part):
    """Return the least post of a part."""
    return min(part[1])
