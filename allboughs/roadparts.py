"""The parts of roads formulas with not nowhere but in marks that are bare: some and every by numbers.

Sayings are ("mark", x), ("bare", x), both, either and ("road", number); tellings are ("here", saying), ("goes", way),
both, either and ("later", number). What is later is one of the rows of its road: (word, first, second), with next,
until, once, ever, or with release, where the second part holds up to a place with both, or for ever.
"""

JOINTS = {"both": "either", "either": "both"}
MARKS = {"mark": "bare", "bare": "mark"}
LATER = {"next": "next", "until": "release", "once": "ever", "ever": "once"}
OWING = ("until", "once")


class Road:
    """A some, or the contrary of one: then all that is said of it, its sayings too, is contrary to what holds."""

    def __init__(self, is_contrary):
        """Begin without a telling."""
        self.is_contrary = is_contrary
        self.rows = []
        self.content = None

    def due(self, at):
        """The telling that has to hold at a place if the row was promised at the place ahead."""
        word, first, _ = self.rows[at]
        return first if word == "next" else ("later", at)

    def promise_behind(self, watched, promised):
        """Which row is watched next, and whether what was watched is paid, told the rows that are promised now.

        Those that owe something are watched one after the other, each until it is not promised.
        """
        owing = [at for at in promised if self.rows[at][0] in OWING]
        if not owing:
            return 0, 1
        if watched in owing:
            return watched, 0
        later = [at for at in owing if watched is not None and at > watched]
        return (later[0] if later else owing[0]), 1


class Roads:
    """A saying, and the roads that stand in it."""

    def __init__(self, saying):
        """Number the roads at once."""
        self.roads = []
        self.whole = self.number_saying(saying, True)

    def number_saying(self, saying, fine):
        """What is said, or, unless fine, that it does not hold."""
        word = saying[0]
        if word == "not":
            return self.number_saying(saying[1], not fine)
        if word in MARKS:
            return saying if fine else (MARKS[word], saying[1])
        if word in JOINTS:
            parts = [self.number_saying(part, fine) for part in saying[1:]]
            return (word if fine else JOINTS[word], parts[0], parts[1])
        # That each road tells something is contrary to some road that does not.
        road = Road(fine == (word == "every"))
        at = len(self.roads)
        self.roads.append(road)
        road.content = self.number_telling(saying[1], word == "some", road)
        return ("road", at)

    def number_telling(self, telling, fine, road):
        """What is told, or, unless fine, that it does not hold."""
        word = telling[0]
        if word == "not":
            return self.number_telling(telling[1], not fine, road)
        if word == "here":
            return (word, self.number_saying(telling[1], fine != road.is_contrary))
        if word == "goes":
            return telling if fine else (word, 1 - telling[1])
        parts = [self.number_telling(part, fine, road) for part in telling[1:]]
        if word in JOINTS:
            return (word if fine else JOINTS[word], parts[0], parts[1])
        road.rows.append((word if fine else LATER[word], parts[0], parts[-1]))
        return ("later", len(road.rows) - 1)
