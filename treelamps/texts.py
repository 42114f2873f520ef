"""Texts of forests, slides and lists of vertices, and how they are read."""

from treelamps.bounds import MAX_VERTICES
from treelamps.errors import BadText
from treelamps.forests import edges_error

NONE = "none"


def list_text(words):
    """Return the words with one space between two, or "none" if there are none."""
    return " ".join(words) if words else NONE


def vertices_text(vertices):
    """Return the text of a list of vertices."""
    return list_text([str(vertex) for vertex in vertices])


def slides_text(slides):
    """Return the text of slides."""
    return list_text([f"{u}>{v}" for u, v in slides])


def forest_text(forest):
    """Return the text of a forest."""
    n, edges = forest
    return f"{n}: " + list_text([f"{a}-{b}" for a, b in edges])


def number_in(word):
    """Return the number whose text the word is, or None if it is no number of at most two digits."""
    if not word.isascii() or not word.isdigit() or len(word) > 2:
        return None
    if len(word) == 2 and word.startswith("0"):
        return None
    return int(word)


def pair_in(word, sign):
    """Return the pair of numbers whose text, with the sign between them, the word is, or None."""
    first, found, second = word.partition(sign)
    pair = (number_in(first), number_in(second))
    return None if None in pair else pair


def numbers_in(words):
    """Return the list of the numbers whose texts the words are, or None if one is no number."""
    numbers = [number_in(word) for word in words]
    return None if None in numbers else numbers


def vertices_in(words):
    """Return the tuple of numbers whose text these words are, or None if they are the text of no list."""
    if words == [NONE]:
        return ()
    numbers = numbers_in(words)
    return tuple(numbers) if numbers else None


def words_of(text):
    """Return the list of the words of a text."""
    if not isinstance(text, str):
        raise BadText(None)
    return text.split(" ")


def size_in(word):
    """Return the number of vertices from the first word of the text of a forest."""
    n = number_in(word.removesuffix(":"))
    if not word.endswith(":") or n is None or n > MAX_VERTICES:
        raise BadText(0)
    return n


def parse_forest(text):
    """Return the forest whose text it is."""
    words = words_of(text)
    n = size_in(words[0])
    if words[1:] == [NONE]:
        return (n, ())
    if words[1:2] == [NONE]:
        raise BadText(2)
    edges = tuple([pair_in(word, "-") for word in words[1:]])
    error = edges_error(n, edges)
    if error is not None:
        # Word 0 stands before the edges.
        raise BadText(error[0] + 1)
    if not edges:
        raise BadText(1)
    return (n, edges)


def parse_slides(text):
    """Return the tuple of pairs whose text it is."""
    words = words_of(text)
    if words == [NONE]:
        return ()
    pairs = [pair_in(word, ">") for word in words]
    if None in pairs:
        raise BadText(pairs.index(None))
    return tuple(pairs)
