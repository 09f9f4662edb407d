"""The places of a code that can be reached, whatever the registers have."""

from quietsmith.instructions import GOES_AWAY, targets


def places_behind(code, place):
    """Returns the list of the places of the code to which the instruction at a place can go."""
    instruction = code[place]
    places = targets(instruction)
    if instruction[0] not in GOES_AWAY:
        places.append(place + 1)
    return [other for other in places if other < len(code)]


def reachable(code):
    """Returns a list that tells for each place of the code whether it can be reached from place 0."""
    found = [False] * len(code)
    found[0] = True
    waiting = [0]
    while len(waiting) > 0:
        place = waiting.pop()
        for following in places_behind(code, place):
            if not found[following]:
                found[following] = True
                waiting.append(following)
    return found
