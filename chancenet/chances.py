"""How likely states are, and what follows for facts.

A state is a list with the place of each thing's value. Its weight is the
product of its things' weights: all lines of a thing have the same sum, so
the weights of two states are to each other as their chances are.
"""


class KnownRefused(Exception):
    pass


def open_choices(place, thing, facts):
    if place in facts:
        return [facts[place]]
    return list(range(len(thing.choices)))


def states_with(things, facts):
    # In the order in which the last thing's values change first.
    states = [[]]
    for place, thing in enumerate(things):
        choices = open_choices(place, thing, facts)
        longer = []
        for state in states:
            for choice in choices:
                longer.append(state + [choice])
        states = longer
    return states


def row_for(thing, things, state):
    place = 0
    for source in thing.sources:
        place = place * len(things[source].choices) + state[source]
    return thing.rows[place]


def weight_of(things, state, done):
    weight = 1
    for place, thing in enumerate(things):
        if place not in done:
            weight = weight * row_for(thing, things, state)[state[place]]
    return weight


def holds(facts, state):
    return all([state[place] == choice for place, choice in facts.items()])


def greatest_divisor(first, second):
    while second != 0:
        rest = first % second
        first = second
        second = rest
    return first


def chance_text(part, whole):
    divisor = greatest_divisor(part, whole)
    return str(part // divisor) + "/" + str(whole // divisor)


def chance_of(things, question):
    part = 0
    whole = 0
    for state in states_with(things, question.known):
        weight = weight_of(things, state, question.done)
        whole = whole + weight
        if holds(question.wanted, state):
            part = part + weight
    if whole == 0:
        raise KnownRefused()
    return chance_text(part, whole)


def likeliest_state(things, facts):
    best = None
    heaviest = 0
    # Only a heavier one takes the place: of equals the first in order stays.
    for state in states_with(things, facts):
        weight = weight_of(things, state, {})
        if weight > heaviest:
            best = state
            heaviest = weight
    if best is None:
        raise KnownRefused()
    return best


def state_codes(things, state):
    codes = []
    for thing, choice in zip(things, state):
        if len(codes) > 0:
            codes.append(ord(" "))
        codes.extend(thing.name)
        codes.append(ord("="))
        codes.extend(thing.choices[choice])
    return codes
