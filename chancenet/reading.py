"""Reading a net: its bytes into lines of words, and these into things.

A word is a tuple of the numbers of its signs, so that it can be compared and
given back as bytes without being turned into a text.
"""

LINE_END = 10
BLANK = 32
LAST_PRINTABLE = 126

MOST_NAME_SIGNS = 16
LEAST_VALUES = 2
MOST_VALUES = 4
LEAST_SOURCES = 1
MOST_SOURCES = 4
MOST_WEIGHT = 1000
MOST_WEIGHT_DIGITS = 4
MOST_THINGS = 20
MOST_STATES = 1048576


class NetRefused(Exception):
    pass


class Thing:
    def __init__(self, name, choices, sources):
        self.name = name
        self.choices = choices
        # Places in the net's list of things, as these are what later steps look up by.
        self.sources = sources
        self.rows = []


def codes_of(text):
    return tuple([ord(sign) for sign in text])


def split_at(codes, mark):
    parts = []
    part = []
    for code in codes:
        if code == mark:
            parts.append(part)
            part = []
        else:
            part.append(code)
    parts.append(part)
    return parts


def split_words(codes):
    # Blanks side by side, or at an end, have nothing between them: that is no word.
    return [tuple(part) for part in split_at(codes, BLANK) if len(part) > 0]


def is_digit(code):
    return ord("0") <= code <= ord("9")


def is_name_sign(code):
    if is_digit(code) or code == ord("_"):
        return True
    return ord("A") <= code <= ord("Z") or ord("a") <= code <= ord("z")


def is_name(word):
    return 1 <= len(word) <= MOST_NAME_SIGNS and all([is_name_sign(code) for code in word])


def check_names(names, least, most):
    if len(names) < least or len(names) > most:
        raise NetRefused()
    if not all([is_name(name) for name in names]):
        raise NetRefused()
    if len(set(names)) != len(names):
        raise NetRefused()


def check_bytes(net):
    # Lines that say nothing are held to this too: the net as a whole has no other bytes.
    for code in net:
        if code != LINE_END and (code < BLANK or code > LAST_PRINTABLE):
            raise NetRefused()


def telling_lines(net):
    lines = []
    for line in split_at(net, LINE_END):
        words = split_words(line)
        if len(words) > 0 and line[0] != ord("#"):
            lines.append(words)
    return lines


def place_of_word(words, wanted):
    for place, word in enumerate(words):
        if word == wanted:
            return place
    return None


def read_sources(names, things):
    check_names(names, LEAST_SOURCES, MOST_SOURCES)
    told = [thing.name for thing in things]
    sources = []
    for name in names:
        place = place_of_word(told, name)
        if place is None:
            raise NetRefused()
        sources.append(place)
    return sources


def read_head(words, things):
    if len(words) < 3 or words[0] != codes_of("thing") or words[2] != codes_of(":"):
        raise NetRefused()
    name = words[1]
    if not is_name(name) or name in [thing.name for thing in things]:
        raise NetRefused()
    # Looked for behind the colon alone: a thing may be named from, only a value may not.
    tail = words[3:]
    behind = place_of_word(tail, codes_of("from"))
    choices = tail if behind is None else tail[:behind]
    check_names(choices, LEAST_VALUES, MOST_VALUES)
    sources = [] if behind is None else read_sources(tail[behind + 1:], things)
    return Thing(name, choices, sources)


def read_weight(word):
    if len(word) > MOST_WEIGHT_DIGITS or not all([is_digit(code) for code in word]):
        raise NetRefused()
    weight = 0
    for code in word:
        weight = weight * 10 + code - ord("0")
    if weight > MOST_WEIGHT:
        raise NetRefused()
    return weight


def read_row(words, width):
    if len(words) != width:
        raise NetRefused()
    return [read_weight(word) for word in words]


def check_sums(rows):
    total = sum(rows[0])
    if total == 0:
        raise NetRefused()
    for row in rows:
        if sum(row) != total:
            raise NetRefused()


def read_rows(lines, height, width):
    if len(lines) != height:
        raise NetRefused()
    rows = [read_row(words, width) for words in lines]
    check_sums(rows)
    return rows


def count_ways(things):
    ways = 1
    for thing in things:
        ways = ways * len(thing.choices)
    return ways


def read_things(lines):
    things = []
    start = 0
    while start < len(lines):
        # Asked before the next one is read, so that a net with thousands is not gone through.
        if len(things) == MOST_THINGS:
            raise NetRefused()
        thing = read_head(lines[start], things)
        height = count_ways([things[place] for place in thing.sources])
        end = start + 1 + height
        thing.rows = read_rows(lines[start + 1:end], height, len(thing.choices))
        things.append(thing)
        start = end
    return things


def read_net(net):
    check_bytes(net)
    things = read_things(telling_lines(net))
    if len(things) == 0 or count_ways(things) > MOST_STATES:
        raise NetRefused()
    return things
