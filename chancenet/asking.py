"""Reading what's asked of a net: its bytes into words, and these into facts or names.

A name is kept as the place of its thing in the net. A fact is kept as two
places: that of its thing, and that of its value among the thing's own. Facts
are a dict from the one to the other.
"""

from chancenet.reading import BLANK, LAST_PRINTABLE, codes_of, place_of_word, split_at, split_words


class AskRefused(Exception):
    pass


class Question:
    def __init__(self, wanted, known, done):
        self.wanted = wanted
        # Those that are done are here too: they hold like the others.
        self.known = known
        self.done = done


class Pair:
    def __init__(self, first, second, names):
        self.first = first
        self.second = second
        self.names = names


def read_words(ask):
    for code in ask:
        if code < BLANK or code > LAST_PRINTABLE:
            raise AskRefused()
    return split_words(ask)


def read_parts(ask):
    parts = split_at(read_words(ask), codes_of("|"))
    if len(parts) > 2 or any([len(part) == 0 for part in parts]):
        raise AskRefused()
    return parts


def read_place(word, told):
    place = place_of_word(told, word)
    if place is None:
        raise AskRefused()
    return place


def read_thing(word, things):
    return read_place(word, [thing.name for thing in things])


def read_facts(words, things):
    facts = {}
    for word in words:
        sides = split_at(word, ord("="))
        if len(sides) != 2:
            raise AskRefused()
        place = read_thing(tuple(sides[0]), things)
        if place in facts:
            raise AskRefused()
        facts[place] = read_place(tuple(sides[1]), things[place].choices)
    return facts


def read_known(ask, things):
    return read_facts(read_words(ask), things)


def is_do(word):
    return word == codes_of("do")


def done_words(words):
    if is_do(words[-1]):
        raise AskRefused()
    # A do behind another is among these, and is refused when read as a fact.
    return [word for word, ahead in zip(words[1:], words) if is_do(ahead)]


def read_question(ask, things):
    parts = read_parts(ask)
    wanted = read_facts(parts[0], things)
    if len(parts) == 1:
        return Question(wanted, {}, {})
    done = read_facts(done_words(parts[1]), things)
    known = read_facts([word for word in parts[1] if not is_do(word)], things)
    return Question(wanted, known, done)


def read_pair(ask, things):
    parts = read_parts(ask)
    if len(parts[0]) != 2:
        raise AskRefused()
    places = []
    for part in parts:
        places.extend([read_thing(word, things) for word in part])
    if len(set(places)) != len(places):
        raise AskRefused()
    names = {}
    for place in places[2:]:
        names[place] = True
    return Pair(places[0], places[1], names)
