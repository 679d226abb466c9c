"""Papers led forth and back over a turn (points S7.5 and S7.6)."""

from worthhouse.compiling import store_over
from worthhouse.errors import BadTurn, UnknownThing
from worthhouse.judging import need_lines, need_paper
from worthhouse.leadingback import led_back
from worthhouse.leadingforth import led_forth
from worthhouse.rules import need_fit
from worthhouse.turnforms import need_turn
from worthhouse.turning import Turning


def lines_forth(program, store, turn, paper):
    """The paper of the turned program that a paper of the program becomes."""
    turning, _ = _turning_over(program, store, turn)
    need_paper(program, store, paper)
    need_lines(program, store, paper)
    return led_forth(turning, paper[0], paper[1])


def lines_back(program, store, turn, paper):
    """The paper of the program that a paper of the turned one becomes; turn is the one that led forth."""
    need_fit(program, store)
    need_turn(program, turn)
    if turn[0] == "join":
        raise BadTurn()
    turning, over = _turning_over(program, store, turn)
    need_paper(turning.behind, over, paper)
    need_lines(turning.behind, over, paper)
    return led_back(turning, paper[0], paper[1])


def _turning_over(program, store, turn):
    """The turning, and the store over the turned program's frame, which that program fits."""
    need_fit(program, store)
    turning = Turning(program, turn)
    over = store_over(turning.behind.frame, store)
    need_fit(turning.behind, over)
    if turn[0] == "special":
        _, name, place, thing = turn
        if not store.has_thing(thing, program.frame.places(name)[place]):
            raise UnknownThing(thing)
    return (turning, over)
