"""The calls that are asked of nets."""

from chancenet.asking import AskRefused, read_known, read_pair, read_question
from chancenet.chances import KnownRefused, chance_of, likeliest_state, state_codes
from chancenet.drawing import draw_state
from chancenet.reading import NetRefused, codes_of, read_net
from chancenet.ways import has_open_way

MOST_NET_BYTES = 65536
MOST_ASK_BYTES = 1024

TOO_LONG = -1
BAD_ARGUMENTS = -2
BAD_NET = -3
BAD_ASK = -4
CANT_BE = -5


def sizes_fit(net, ask):
    return len(net) <= MOST_NET_BYTES and len(ask) <= MOST_ASK_BYTES


def told_codes(most, codes):
    if len(codes) > most:
        return [TOO_LONG]
    return [len(codes)] + list(codes)


def bn_check(net):
    if len(net) > MOST_NET_BYTES:
        return [BAD_ARGUMENTS]
    try:
        read_net(net)
    except NetRefused:
        return [BAD_NET]
    return [0]


def bn_ask(most, net, ask):
    if not sizes_fit(net, ask):
        return [BAD_ARGUMENTS]
    try:
        things = read_net(net)
        chance = chance_of(things, read_question(ask, things))
    except NetRefused:
        return [BAD_NET]
    except AskRefused:
        return [BAD_ASK]
    except KnownRefused:
        return [CANT_BE]
    return told_codes(most, codes_of(chance))


def bn_best(most, net, known):
    if not sizes_fit(net, known):
        return [BAD_ARGUMENTS]
    try:
        things = read_net(net)
        best = likeliest_state(things, read_known(known, things))
    except NetRefused:
        return [BAD_NET]
    except AskRefused:
        return [BAD_ASK]
    except KnownRefused:
        return [CANT_BE]
    return told_codes(most, state_codes(things, best))


def bn_apart(net, ask):
    if not sizes_fit(net, ask):
        return [BAD_ARGUMENTS]
    try:
        things = read_net(net)
        pair = read_pair(ask, things)
    except NetRefused:
        return [BAD_NET]
    except AskRefused:
        return [BAD_ASK]
    return [0] if has_open_way(things, pair.names, pair.first, pair.second) else [1]


def bn_draw(numbers, net):
    if len(net) > MOST_NET_BYTES:
        return [BAD_ARGUMENTS]
    try:
        things = read_net(net)
    except NetRefused:
        return [BAD_NET]
    if len(numbers) != len(things):
        return [BAD_ARGUMENTS]
    return [0] + draw_state(things, numbers)
