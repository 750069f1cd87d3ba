"""Drawing a state: each thing's value by a number of its own."""

from chancenet.chances import row_for

# What the numbers to draw by lie below, 2 to the 32nd.
NUMBER_BOUND = 4294967296


def draw_choice(row, number):
    bound = number * sum(row)
    weight = 0
    choice = 0
    # The last value's bound is never passed, as the number is below NUMBER_BOUND.
    while (weight + row[choice]) * NUMBER_BOUND <= bound:
        weight = weight + row[choice]
        choice = choice + 1
    return choice


def draw_state(things, numbers):
    state = []
    for thing, number in zip(things, numbers):
        # What the thing comes of is told before it, and so has been drawn.
        state.append(draw_choice(row_for(thing, things, state), number))
    return state
