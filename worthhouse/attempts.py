"""Attempts: if an error leaves one, the house is as before (point S9.8)."""


def attempt(house, action):
    """Calls the action with the house, and returns what it returns."""
    past = house.past
    try:
        answer = action(house)
        # From here on there is nothing to be given back.
        past = None
    finally:
        if past is not None:
            house.past = past
    return answer


def tried(house, deeds):
    """Does all deeds, or none; the list of the numbers of the new states."""

    def do_all(held):
        return [held.do(deed) for deed in deeds]

    return attempt(house, do_all)


def would(house, deeds, facts):
    """The list of the settled worths of the facts behind the deeds; the house stays as it is."""
    other = house.twin()
    tried(other, deeds)
    return [other.worth(fact) for fact in facts]
