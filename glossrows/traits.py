"""What of a word a search looks through."""

from glossrows.reading import FORM, GLOSS
from glossrows.signs import dotted_parts

# The kind of what's wanted that a word fits by not having it.
KIND_OF_NONE = 6


def traits_of_words(words):
    return [traits_of(word) for word in words]


# The place of each list is the kind of what's wanted that is looked for in it.
def traits_of(word):
    forms = [piece[FORM] for piece in word.pieces]
    glosses = [piece[GLOSS] for piece in word.pieces]
    parts = []
    for gloss in glosses:
        parts.extend(dotted_parts(gloss))
    return ([tuple(word.rows[0])], forms, glosses, parts, glosses[:1], glosses[-1:], glosses)


def has_trait(traits, kind, signs):
    return (signs in traits[kind]) == (kind != KIND_OF_NONE)
