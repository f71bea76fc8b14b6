"""What shorts mean on a wood: each function looks at rows of nodes, all of which can be come to from the first one.

Where a short is of one name, x and y are the same.
"""

from allboughs.ranking import mask_of, reach_of


def is_bare(rows, x, y):
    """Whether x has no place."""
    return not any(x in letter for letter, _, _ in rows)


def goals_of(rows):
    """For each node the nodes to which it leads."""
    return [[left, right] for _, left, right in rows]


def is_finite(rows, x, y):
    """Whether x has finitely many places: from no node that leads back to itself one comes to x."""
    reach = reach_of(goals_of(rows))
    marks = mask_of([node for node, row in enumerate(rows) if x in row[0]])
    return not any(mask >> node & 1 and mask & marks for node, mask in enumerate(reach))


def is_one(rows, x, y):
    """Whether x has just one place. Where it has finitely many the places are gone through, until two are found."""
    if not is_finite(rows, x, y):
        return False
    marks = mask_of([node for node, row in enumerate(rows) if x in row[0]])
    reach = reach_of(goals_of(rows))
    found = 0
    todo = [0]
    while todo and found < 2:
        node = todo.pop()
        found += marks >> node & 1
        todo.extend([goal for goal in rows[node][1:] if (reach[goal] | 1 << goal) & marks])
    return found == 1


def are_same(rows, x, y):
    """Whether x and y have the same places."""
    return all((x in letter) == (y in letter) for letter, _, _ in rows)


def are_apart(rows, x, y):
    """Whether x and y share no place."""
    return not any(x in letter and y in letter for letter, _, _ in rows)


def is_closed(rows, x, y):
    """Whether with each place both its children are in x."""
    return all(x not in letter or x in rows[left][0] and x in rows[right][0] for letter, left, right in rows)


def is_thread(rows, x, y):
    """Whether with each place one of its children at least is in x."""
    return all(x not in letter or x in rows[left][0] or x in rows[right][0] for letter, left, right in rows)


def places_below(rows, x):
    """The pairs (node, below) of places, below telling whether a place of x is above this one."""
    pairs = [(0, False)]
    met = {(0, False): True}
    at = 0
    while at < len(pairs):
        node, below = pairs[at]
        at += 1
        letter, left, right = rows[node]
        for goal in (left, right):
            pair = (goal, below or x in letter)
            if pair not in met:
                met[pair] = True
                pairs.append(pair)
    return pairs


def is_below(rows, x, y):
    """Whether y has just the places of x and all places below them."""
    return all((below or x in rows[node][0]) == (y in rows[node][0]) for node, below in places_below(rows, x))


def is_first(rows, x, y):
    """Whether y has just the places of x that lie below no other place of x."""
    return all((x in rows[node][0] and not below) == (y in rows[node][0]) for node, below in places_below(rows, x))


def is_road(rows, x, y):
    """Whether x is the root, one child of it, one child of this, and so on, nothing else."""
    pairs = [(0, True)]
    met = {(0, True): True}
    at = 0
    while at < len(pairs):
        node, due = pairs[at]
        at += 1
        letter, left, right = rows[node]
        if (x in letter) != due or due and (x in rows[left][0]) == (x in rows[right][0]):
            return False
        for goal in (left, right):
            pair = (goal, due and x in rows[goal][0])
            if pair not in met:
                met[pair] = True
                pairs.append(pair)
    return True


def reach_without(rows, x):
    """For each node what is come to without x: from nodes that do not bear it, through such, to such."""
    bare = [x not in letter for letter, _, _ in rows]
    return reach_of([[goal for goal in row[1:] if bare[node] and bare[goal]] for node, row in enumerate(rows)])


def is_every(rows, x, y):
    """Whether each endless road from the root on meets x: none goes round without it."""
    reach = reach_without(rows, x)
    return not any((reach[0] | 1) >> node & 1 and mask >> node & 1 for node, mask in enumerate(reach))


def is_often(rows, x, y):
    """Whether each endless road bears endless many places of x."""
    return not any(mask >> node & 1 for node, mask in enumerate(reach_without(rows, x)))


def is_again(rows, x, y):
    """Whether some endless road bears endless many places of x."""
    reach = reach_of(goals_of(rows))
    return any(x in row[0] and reach[node] >> node & 1 for node, row in enumerate(rows))


MEANINGS = {
    "again": is_again,
    "apart": are_apart,
    "bare": is_bare,
    "below": is_below,
    "closed": is_closed,
    "every": is_every,
    "finite": is_finite,
    "first": is_first,
    "often": is_often,
    "one": is_one,
    "road": is_road,
    "same": are_same,
    "thread": is_thread,
}
