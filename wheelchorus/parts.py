"""The parts of a cut loop, and the wires that they make [3.5]."""


def near_part(boxes, stretches):
    return tuple(boxes[:stretches[0]]) if len(stretches) > 0 else tuple(boxes)


def far_part(boxes, stretches):
    return tuple(boxes[stretches[-1]:]) if len(stretches) > 0 else tuple(boxes)


def dumb_part(boxes, stretches):
    return tuple(boxes[stretches[0]:stretches[-1]]) if len(stretches) > 0 else ()


def loop_numbers(town, loop):
    return tuple([number for number, _ in town.wire(loop)])


def wires(town, cuts, joined):
    parts = []
    for loop, stretches in enumerate(cuts):
        numbers = loop_numbers(town, loop)
        parts.append(near_part(numbers, stretches))
        # Without a cut both parts are the whole loop, which is one wire.
        if len(stretches) > 0:
            parts.append(far_part(numbers, stretches))
    if joined:
        return (tuple([number for part in parts for number in part]),)
    return tuple(parts)


def wire_ends(cuts, joined):
    """For each loop the indexes, among the wires, of the wire at its near and of the one at its far end."""
    if joined:
        return tuple([(0, 0) for _ in cuts])
    ends = []
    near = 0
    for stretches in cuts:
        far = near + 1 if len(stretches) > 0 else near
        ends.append((near, far))
        near = far + 1
    return tuple(ends)


def dumb_numbers(town, cuts):
    numbers = []
    for loop, stretches in enumerate(cuts):
        numbers.extend(dumb_part(loop_numbers(town, loop), stretches))
    return tuple(numbers)
