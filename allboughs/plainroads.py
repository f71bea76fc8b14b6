"""Plain roads formulas, and shorts, said by points formulas.

A name or two are enough for all points, as what is put into a formula binds all of its own.
"""

from allboughs.errors import BadPlain, BadShort
from allboughs.points import contrary_of
from allboughs.roads import JOINTS, MARKS, check_roads
from allboughs.shortforms import looks_short

POINT = ("point", "z")
NEXT_OF = {"some": "either", "every": "both"}


def ahead(joint, points):
    """That it holds at both children, or at one of them."""
    return (joint, ("next", 0, points), ("next", 1, points))


def is_plain_telling(telling):
    """Whether it is next, once or ever of a here, or until of two heres."""
    return telling[0] in ("next", "once", "ever", "until") and all(part[0] == "here" for part in telling[1:])


def is_plain(saying):
    """Whether what is known to be a saying is plain."""
    if saying[0] in MARKS:
        return True
    if saying[0] not in NEXT_OF:
        return all(is_plain(part) for part in saying[1:])
    telling = saying[1]
    return is_plain_telling(telling) and all(is_plain(here[1]) for here in telling[1:])


def pointed_telling(joint, telling):
    """The points formula of a plain telling of some road, or of each one."""
    sayings = [pointed_saying(here[1]) for here in telling[1:]]
    word = telling[0]
    if word == "next":
        return ahead(joint, sayings[0])
    if word == "once":
        return ("least", "z", ("either", sayings[0], ahead(joint, POINT)))
    if word == "ever":
        return ("most", "z", ("both", sayings[0], ahead(joint, POINT)))
    return ("least", "z", ("either", sayings[1], ("both", sayings[0], ahead(joint, POINT))))


def pointed_saying(saying):
    """The points formula of a plain saying."""
    word = saying[0]
    if word in MARKS:
        return saying
    if word == "not":
        return contrary_of(pointed_saying(saying[1]))
    if word in JOINTS:
        return (word, pointed_saying(saying[1]), pointed_saying(saying[2]))
    return pointed_telling(NEXT_OF[word], saying[1])


def as_points(roads):
    """A points formula that holds at the same places as a plain roads formula."""
    check_roads(roads)
    if not is_plain(roads):
        raise BadPlain("not a plain formula")
    return pointed_saying(roads)


def everywhere(points):
    """That it holds from here on at all places."""
    return ("most", "z", ("both", points, ahead("both", POINT)))


def nowhere(name):
    """That no place from here on bears the name."""
    return everywhere(("bare", name))


def on_one_way(points, name):
    """That it holds at one child, and no place from the other one on bears the name."""
    left = ("both", ("next", 0, points), ("next", 1, nowhere(name)))
    return ("either", left, ("both", ("next", 1, points), ("next", 0, nowhere(name))))


def again_and_again(joint, name):
    """That some road from here on, or each one, bears the name again and again."""
    met = ("both", ("mark", name), ahead(joint, POINT))
    return ("most", "z", ("least", "y", ("either", met, ahead(joint, ("point", "y")))))


def until_marked(x, y, behind):
    """That there is no x and no y up to the first places of x, and that behind holds there."""
    below = ("both", ("bare", x), ("both", ("bare", y), ahead("both", POINT)))
    return ("most", "z", ("either", ("both", ("mark", x), behind), below))


def bare(x, y):
    """The points formula of ("bare", x)."""
    return nowhere(x)


def one_place(x, y):
    """The points formula of ("one", x)."""
    here = ("both", ("mark", x), ahead("both", nowhere(x)))
    return ("least", "z", ("either", here, ("both", ("bare", x), on_one_way(POINT, x))))


def same(x, y):
    """The points formula of ("same", x, y)."""
    return everywhere(("either", ("both", ("mark", x), ("mark", y)), ("both", ("bare", x), ("bare", y))))


def apart(x, y):
    """The points formula of ("apart", x, y)."""
    return everywhere(("either", ("bare", x), ("bare", y)))


def closed(x, y):
    """The points formula of ("closed", x)."""
    return everywhere(("either", ("bare", x), ahead("both", ("mark", x))))


def below(x, y):
    """The points formula of ("below", x, y)."""
    return until_marked(x, y, everywhere(("mark", y)))


def first(x, y):
    """The points formula of ("first", x, y)."""
    return until_marked(x, y, ("both", ("mark", y), ahead("both", nowhere(y))))


def thread(x, y):
    """The points formula of ("thread", x)."""
    return everywhere(("either", ("bare", x), ahead("either", ("mark", x))))


def road(x, y):
    """The points formula of ("road", x)."""
    return ("most", "z", ("both", ("mark", x), on_one_way(POINT, x)))


def finite(x, y):
    """The points formula of ("finite", x): each road comes to a place from which on there is none."""
    return ("least", "z", ("either", nowhere(x), ahead("both", POINT)))


def every(x, y):
    """The points formula of ("every", x)."""
    return ("least", "z", ("either", ("mark", x), ahead("both", POINT)))


def often(x, y):
    """The points formula of ("often", x)."""
    return again_and_again("both", x)


def again(x, y):
    """The points formula of ("again", x)."""
    return again_and_again("either", x)


POINTED = {
    "again": again,
    "apart": apart,
    "bare": bare,
    "below": below,
    "closed": closed,
    "every": every,
    "finite": finite,
    "first": first,
    "often": often,
    "one": one_place,
    "road": road,
    "same": same,
    "thread": thread,
}


def pointed(short):
    """The points formula that holds at the root exactly if the short holds."""
    if not looks_short(short):
        raise BadShort("not a short")
    told = POINTED[short[0]]
    return told(short[1], short[-1])
