"""How many rows of a told table the trees of a program have (points S6.5 and S6.6)."""

from worthhouse.errors import NotTold
from worthhouse.rounds import need_ruled_facts
from worthhouse.rules import made_program, need_fit
from worthhouse.scales import FewScale, MostScale
from worthhouse.spreading import spread_of, spreads_of
from worthhouse.stores import Store
from worthhouse.uses import uses_of

MOST_FEW = 4
MOST_MOST = 3


def spreads(program, name):
    """A dict from the ruled tables to the least and the greatest number of rows of a told table in abstract trees."""
    frame = program.frame
    _need_told_table(frame, name)
    steps = []
    for _, head, body, _, _ in program.rules():
        tables = [atom[0] for atom in body]
        steps.append((head[0], tables.count(name), [table for table in tables if frame.is_ruled(table)]))
    return spreads_of(steps, [table for table, _ in frame.ruled()])


def abstract_steps(program, name, is_most):
    """The program and the store whose settled worths tell the greatest numbers, or the least ones."""
    frame = program.frame
    _need_told_table(frame, name)
    scale = MostScale(MOST_MOST) if is_most else FewScale(MOST_FEW)
    rules = [
        (label, _kinds_atom(frame, head), tuple([_kinds_atom(frame, atom) for atom in body]), (), "0")
        for label, head, body, _, _ in program.rules()
    ]
    rows = [(table, kinds, "1" if table == name else "0") for table, kinds in frame.told()]
    return (made_program(frame, scale, rules), Store(frame, scale, [(kind, kind) for kind in frame.kinds()], rows))


def rows_between(program, store, fact, name):
    """The least and the greatest number of rows of a told table in the trees for a ruled fact."""
    need_fit(program, store)
    _need_told_table(program.frame, name)
    need_ruled_facts(program, store, [fact])
    steps = []
    for _, _, head, told, ruled in uses_of(program, store):
        steps.append((head, [row[0] for row in told].count(name), ruled))
    return spread_of(steps, fact)


def _need_told_table(frame, name):
    if not frame.has_told(name):
        raise NotTold(name)


def _kinds_atom(frame, atom):
    """The atom with "@" and its kind at each place."""
    return (atom[0], tuple(["@" + kind for kind in frame.places(atom[0])]))
