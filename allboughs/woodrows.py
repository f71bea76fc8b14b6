"""Woods as rows of words: written, and read again."""

from allboughs.woods import is_wood

MOST_FIGURES = 3


def write_names(names):
    """A scope or a letter as a word."""
    return ",".join(names) if names else "-"


def read_names(word):
    """The tuple that a word tells, whatever its items are."""
    return () if word == "-" else tuple(word.split(","))


def read_number(word):
    """The number that a word tells with figures, without needless zeros in front; None if it is none, or too great."""
    if not 1 <= len(word) <= MOST_FIGURES or not all("0" <= sign <= "9" for sign in word):
        return None
    return None if len(word) > 1 and word[0] == "0" else int(word)


def read_node(word):
    """What a word tells as a node; None if it does not look like one."""
    parts = word.split(":")
    if len(parts) != 3:
        return None
    return (read_names(parts[0]), read_number(parts[1]), read_number(parts[2]))


def wood_words(wood):
    """The words of a wood: its scope and its nodes."""
    words = [write_names(wood[1])]
    for letter, left, right in wood[2]:
        words.append(f"{write_names(letter)}:{left}:{right}")
    return words


def wood_of(words):
    """The wood with these words; None if there is none."""
    wood = ("wood", read_names(words[0]), tuple([read_node(word) for word in words[1:]]))
    return wood if is_wood(wood) else None
