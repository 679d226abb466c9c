"""Questions compiled to rules, and answered by these (points S6.3 and S6.4)."""

from worthhouse.errors import MixedFrames
from worthhouse.frames import made_frame
from worthhouse.questionkinds import checked
from worthhouse.relations import told_worths
from worthhouse.ruleruns import settled_tables
from worthhouse.rulemaking import Making
from worthhouse.rules import made_program
from worthhouse.running import answers_of, fillings_by, need_askable
from worthhouse.stores import Store

# The name of the made table for the question itself.
QUESTION_TABLE = "q.0"


def compiled(frame, scale, question):
    """The program to which a question is compiled, and the name of its table for the question."""
    making = Making(checked(frame, scale, question), scale, question)
    return (_program_of(frame, scale, making), QUESTION_TABLE)


def compiled_parts(frame, scale, question):
    """The list of the pairs of a made table's name and the place of the term for which it stands."""
    making = Making(checked(frame, scale, question), scale, question)
    return [(name, place) for name, place, _ in making.tables()]


def store_over(frame, store):
    """The store with the same scale, things and rows over another frame with the same kinds and told tables."""
    if frame.kinds() != store.frame.kinds() or frame.told() != store.frame.told():
        raise MixedFrames()
    return Store(frame, store.scale, store.things(), store.rows())


def asked_facts(frame, scale, store, question):
    """The list of all facts of the question's made table with things of the store."""
    columns = need_askable(frame, scale, store, question).columns_in_order(question[0])
    return [(QUESTION_TABLE, filling) for filling in fillings_by(store, columns)]


def compiled_run(frame, scale, store, question):
    """The answers of run, worked out by the compiled program."""
    checking = need_askable(frame, scale, store, question)
    program = _program_of(frame, scale, Making(checking, scale, question))
    worths = settled_tables(program, told_worths(store))[QUESTION_TABLE]
    return answers_of(store, (question[0], worths), checking.columns_in_order(question[0]))


def _program_of(frame, scale, making):
    """The program of the rules over the frame with the made tables."""
    ruled = [(table[0], making.kinds_of_table(table)) for table in making.tables()]
    return made_program(made_frame(frame.kinds(), frame.told(), ruled), scale, making.rules())
