"""Which states of a house came of which (point S9.4)."""


def elders(house, number):
    """The ascending list of the numbers of a state's elders, itself among them."""
    house.state(number)
    return _elders_by(house.log(), number)


def come_of(house, number):
    """The ascending list of the numbers of all states of which this one is an elder."""
    house.state(number)
    found = {number: True}
    for later, step in enumerate(house.log(), 1):
        if any([elder in found for elder in _came_of(step)]):
            found[later] = True
    return list(found)


def last_common(house, one, other):
    """The number of the last common state of two states."""
    house.state(one)
    house.state(other)
    log = house.log()
    first = {number: True for number in _elders_by(log, one)}
    return max([number for number in _elders_by(log, other) if number in first])


def line_to(house, number):
    """The list of the deeds that lead from state 0 to this one by first elders."""
    house.state(number)
    log = house.log()
    deeds = []
    while number > 0:
        number, deed = log[number - 1]
        deeds.append(deed)
    return deeds[::-1]


def _elders_by(log, number):
    found = {number: True}
    for later in reversed(range(1, number + 1)):
        if later in found:
            found.update({elder: True for elder in _came_of(log[later - 1])})
    return sorted(found)


def _came_of(step):
    """The numbers of the states of which a state came, by its entry in the log."""
    elder, deed = step
    return [elder, deed[1]] if deed[0] == "merge" else [elder]
