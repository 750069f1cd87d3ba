"""The calls that are asked of nets."""

from chancenet.reading import NetRefused, read_net

MOST_NET_BYTES = 65536

BAD_ARGUMENTS = -2
BAD_NET = -3


def bn_check(net):
    if len(net) > MOST_NET_BYTES:
        return [BAD_ARGUMENTS]
    try:
        read_net(net)
    except NetRefused:
        return [BAD_NET]
    return [0]
