"""Which states of choices cover which, told by masks: the bit p of the mask of q is set if p covers q."""

from allboughs.drafts import masks_in

# With more states than these all that may cover them are looked at together.
FEW_STATES = 12
# With more unlike pairs than these it is done letter by letter.
FEW_PAIRS = 1000


def worth_of(rank):
    """A number that is the greater the later the rank comes in .. 5, 3, 1, 0, 2, 4 .."""
    return -rank if rank % 2 else rank


def no_worse(ranks):
    """For each state the mask of the states whose ranks are no worse than its own."""
    masks = {}
    bit = 1
    for rank in ranks:
        masks[rank] = masks.get(rank, 0) | bit
        bit <<= 1
    better = 0
    for rank in sorted(masks, key=worth_of)[::-1]:
        better |= masks[rank]
        masks[rank] = better
    return [masks[rank] for rank in ranks]


def is_above(pairs, lower, covers):
    """Whether for each of the lower pairs one of the pairs covers it, left and right."""
    for left, right in lower:
        one = covers[left]
        other = covers[right]
        for upper_left, upper_right in pairs:
            if one >> upper_left & 1 and other >> upper_right & 1:
                break
        else:
            return False
    return True


def is_idle(covers, lists):
    """Whether no two states cover one another and no pair of a list is covered by another one of it."""
    bit = 1
    for mask in covers:
        others = mask & bit - 1
        while others:
            at = others.bit_length() - 1
            others ^= 1 << at
            if covers[at] & bit:
                return False
        bit <<= 1
    for pairs in lists:
        if len(pairs) > 1:
            for left, right in pairs:
                one = covers[left]
                other = covers[right]
                if one & one - 1 or other & other - 1:
                    for upper, beside in pairs:
                        if one >> upper & 1 and other >> beside & 1 and (upper != left or beside != right):
                            return False
    return True


class Few:
    """The greatest relation of covers, of few states with ranks and, column by column, the numbers of their lists.

    covers has for each state the mask of the states that cover it. If idle is True there is nothing to be done by it,
    and there may be more in it, as it was narrowed no further.
    """

    def __init__(self, ranks, columns, lists):
        """Find the relation: the greatest one at first, narrowed again and again."""
        many = len(lists)
        self.lists = lists
        self.rows = list(zip(*columns))
        self.covers = [1 << state for state in range(len(ranks))]
        todo = self.candidates([worth_of(rank) for rank in ranks])
        self.idle = is_idle(self.covers, lists)
        if self.idle:
            return
        # For each two lists, by one number, whether the one has a pair above each pair of the other; None if not known.
        known = [None] * (many * many)
        for at in range(many):
            known[at * many + at] = True
        todo, changed = self.narrowed(todo, known)
        while changed:
            self.idle = is_idle(self.covers, lists)
            if self.idle:
                return
            # It was so for all lists that states left have in one column.
            known = [None if mask & changed else True for mask in masks_in(lists)] * many
            todo, changed = self.narrowed(todo, known)

    def filled(self):
        """For each state the mask of the columns in which it has pairs."""
        if () not in self.lists:
            return [0] * len(self.rows)
        empty = self.lists.index(())
        told = []
        for row in self.rows:
            mask = 0
            for at in row:
                mask = mask << 1 | (at != empty)
            told.append(mask)
        return told

    def candidates(self, worths):
        """The pairs of states the first of which may cover the second, by its rank and by where it has pairs."""
        filled = self.filled()
        todo = []
        for state, worth in enumerate(worths):
            wanted = filled[state]
            for upper, other in enumerate(worths):
                if other >= worth and filled[upper] & wanted == wanted and upper != state:
                    self.covers[state] |= 1 << upper
                    todo.append((upper, state))
        return todo

    def narrowed(self, todo, known):
        """Those of some pairs of states that are still in the relation, and the mask of the states covered by fewer."""
        covers = self.covers
        lists = self.lists
        many = len(lists)
        changed = 0
        left = []
        for upper, state in todo:
            for at, below in zip(self.rows[upper], self.rows[state]):
                fine = known[at * many + below]
                if fine is None:
                    fine = is_above(lists[at], lists[below], covers)
                    known[at * many + below] = fine
                if not fine:
                    covers[state] ^= 1 << upper
                    changed |= 1 << state
                    break
            else:
                left.append((upper, state))
        return left, changed

    def list_left(self, pairs, numbers):
        """A list without the pairs that another one of it covers, with other numbers of states.

        Two states that cover one another have one number now.
        """
        if len(pairs) < 2:
            return tuple([(numbers[left], numbers[right]) for left, right in pairs])
        kept = {}
        for left, right in pairs:
            told = (numbers[left], numbers[right])
            one = self.covers[left]
            other = self.covers[right]
            if not (one & one - 1 or other & other - 1):
                kept[told] = True
                continue
            for upper, beside in pairs:
                if one >> upper & 1 and other >> beside & 1 and (numbers[upper], numbers[beside]) != told:
                    break
            else:
                kept[told] = True
        return tuple(sorted(kept))


def all_with(masks, states):
    """The mask of all that some states have, told by their bits, where masks tells what the bit of each has."""
    told = 0
    while states:
        bit = states & -states
        states ^= bit
        told |= masks.get(bit, 0)
    return told


def fitting_in(group):
    """For each list in some columns, told the states with each list there, the lists beside it, as a dict."""
    told = {}
    for held in group:
        for at in held:
            others = told.get(at, held)
            told[at] = {**others, **held}
    return told


class Many:
    """The same for many states.

    bits has the bit of each pair in masks of pairs, uppers for each pair the mask of those whose left state covers its
    left one and whose right state covers its right one, codes for each list the mask of its pairs.
    """

    def __init__(self, ranks, columns, lists):
        """Find the relation: the greatest one at first, narrowed again and again."""
        self.lists = lists
        self.bits = {}
        self.codes = [self.code_of(pairs) for pairs in lists]
        self.lefts = {}
        self.rights = {}
        for (left, right), bit in self.bits.items():
            self.lefts[1 << left] = self.lefts.get(1 << left, 0) | bit
            self.rights[1 << right] = self.rights.get(1 << right, 0) | bit
        self.covers = no_worse(ranks)
        self.idle = False
        self.uppers = {}
        self.fates = {}
        self.stale = (1 << len(self.bits)) - 1
        held = [self.states_with(column) for column in columns]
        self.narrow_all([held] if len(self.bits) <= FEW_PAIRS else [[states] for states in held])

    def narrow_all(self, groups):
        """Narrow the relation until nothing narrows it, told groups of columns, each the states with each list there.

        The columns of a group are looked at together, which takes long for many pairs if it is the first time.
        """
        # For each list in a group those lists beside it that may have a pair above each of its pairs.
        fitting = [fitting_in(group) for group in groups]
        waiting = [self.stale] * len(groups)
        while any(waiting):
            for at, group in enumerate(groups):
                asked = waiting[at]
                if asked:
                    waiting[at] = 0
                    self.tell_upper()
                    fewer = self.less_fitting(fitting[at], asked)
                    fitting[at].update(fewer)
                    changed = self.narrow(group, fewer)
                    if changed:
                        more = all_with(self.lefts, changed) | all_with(self.rights, changed)
                        self.stale |= more
                        waiting = [mask | more for mask in waiting]

    def code_of(self, pairs):
        """The mask of the pairs of a list."""
        bits = self.bits
        code = 0
        for pair in pairs:
            if pair not in bits:
                bits[pair] = 1 << len(bits)
            code |= bits[pair]
        return code

    def states_with(self, column):
        """For each list with pairs the mask of its states in a column. Who covers one of these has pairs as well."""
        codes = self.codes
        held = {}
        filled = 0
        bit = 1
        for at in column:
            if codes[at]:
                held[at] = held.get(at, 0) | bit
                filled |= bit
            bit <<= 1
        if filled < bit - 1:
            self.covers = [mask & filled if at in held else mask for mask, at in zip(self.covers, column)]
        return held

    def tell_upper(self):
        """Tell anew which pairs are above those that are stale: of their states fewer cover them now."""
        covers = self.covers
        lefts = {}
        rights = {}
        for pair, bit in self.bits.items():
            if self.stale & bit:
                one = covers[pair[0]]
                other = covers[pair[1]]
                if one not in lefts:
                    lefts[one] = all_with(self.lefts, one)
                if other not in rights:
                    rights[other] = all_with(self.rights, other)
                self.uppers[pair] = lefts[one] & rights[other]
        self.stale = 0

    def less_fitting(self, fitting, asked):
        """The lists with these pairs for which fewer ones have a pair above each of theirs, as a dict with these."""
        codes = self.codes
        uppers = self.uppers
        found = {}
        for at, others in fitting.items():
            if codes[at] & asked and len(others) > 1:
                wanted = list({uppers[pair]: True for pair in self.lists[at]})
                kept = []
                for other in others:
                    code = codes[other]
                    for mask in wanted:
                        if not code & mask:
                            break
                    else:
                        kept.append(other)
                if len(kept) < len(others):
                    found[at] = kept
        return found

    def narrow(self, group, lists):
        """Narrow what covers the states with these lists; told is the mask of the states of which it is less now."""
        if not lists:
            return 0
        covers = self.covers
        changed = 0
        for held in group:
            for at, states in held.items():
                if at in lists:
                    fine = 0
                    for other in lists[at]:
                        fine |= held.get(other, 0)
                    while states:
                        state = states.bit_length() - 1
                        states ^= 1 << state
                        if covers[state] & ~fine:
                            covers[state] &= fine
                            changed |= 1 << state
        return changed

    def tell_above(self, numbers):
        """Tell for each pair which ones cover it and do not become the same, and what it becomes."""
        stays = [(numbers[left], numbers[right]) for left, right in self.bits]
        same = {}
        for told, bit in zip(stays, self.bits.values()):
            same[told] = same.get(told, 0) | bit
        for told, pair in zip(stays, self.bits):
            self.fates[pair] = (self.uppers[pair] & ~same[told], told)

    def list_left(self, pairs, numbers):
        """The same as for few states; numbers are the same at each call."""
        if not self.fates:
            self.tell_above(numbers)
        code = self.code_of(pairs)
        kept = {}
        for pair in pairs:
            mask, told = self.fates[pair]
            if not mask & code:
                kept[told] = True
        return tuple(sorted(kept))
