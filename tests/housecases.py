"""Houses led by random calls, each with a plain one that is led by the same calls."""

from tests.deedcases import some_deed
from tests.plainhouse import PlainHouse, Refused
from tests.plainlines import many_cases
from tests.samples import steady_scales, turning
from worthhouse.errors import BadName, Clash, NothingDone, NotSteady, TooMany
from worthhouse.house import House
from worthhouse.rounds import ruled_facts

WORDS = "do do do do undo redo branch go merge merge watch".split()


def some_houses(rng, seed, many, calls):
    """Triples of a house, a plain one, and the list of the calls' words."""
    for program, store in many_cases(seed, steady_scales() + [turning()], many):
        house, plain = House(program, store), PlainHouse(program, store)
        words = [step(rng, house, plain) for _ in range(rng.randint(0, calls))]
        yield house, plain, words


def step(rng, house, plain):
    """Leads both by one call; the word of the call, or that of the error."""
    word = rng.choice(WORDS)
    try:
        if word == "do":
            deed = some_deed(rng, *house.now())
            # Deeds to a spot at which others are done, too, make clashes.
            if rng.random() < 0.4 and len(house.now()[1]):
                row = house.now()[1].rows()[0]
                deed = ("tell", *row[:2], rng.choice(house.now()[0].scale.worths()))
            if deed is not None and len(house) < 60:
                assert house.do(deed) == plain.do(deed)
        elif word in ("undo", "redo"):
            moved = house.undo() if word == "undo" else house.redo()
            assert moved == plain.move(-1 if word == "undo" else 1)
        elif word == "branch":
            name = rng.choice(["main", "a", "b", "c", "d", "e", "f"])
            house.branch(name)
            plain.branch(name)
        elif word in ("go", "merge"):
            name = rng.choice(house.branches())
            if word == "go":
                plain.here = name
                assert house.go(name) == plain.present()
            else:
                assert house.merge(name) == plain.merge(name)
        else:
            facts = ruled_facts(*house.now())
            chosen = [rng.choice(facts) for _ in range(rng.randint(0, 3)) if facts]
            house.watch(chosen)
            plain.watched = list(dict.fromkeys(chosen))
    except NotSteady:
        return "not steady"
    except (NothingDone, BadName, TooMany, Clash) as caught:
        return refused(plain, word, locals().get("name"), caught)
    return word


def refused(plain, word, name, caught):
    """The plain house refuses the call, too, and in the same way."""
    calls = {
        "undo": lambda: plain.move(-1), "redo": lambda: plain.move(1), "branch": lambda: plain.branch(name), "merge": lambda: plain.merge(name),
    }
    try:
        calls[word]()
    except Refused as why:
        expected = {NothingDone: "end", BadName: "name", TooMany: "many"}
        told = caught.spots if isinstance(caught, Clash) else expected[type(caught)]
        assert why.args == (told,), (why.args, told)
        return type(caught).__name__
    raise AssertionError("the plain house can do it")


def check_same(test, house, plain):
    """Whether the house tells what the plain one does."""
    test.assertEqual(len(house), len(plain.states))
    for number in range(len(house)):
        program, store = house.state(number)
        expected, expected_store = plain.state(number)
        test.assertEqual((program, store.rows()), (expected, expected_store.rows()))
        test.assertEqual(store, expected_store)
    test.assertEqual(house.log(), plain.log)
    test.assertEqual(house.branches(), list(plain.trails))
    test.assertEqual({name: house.trail(name) for name in house.branches()}, plain.trails)
    test.assertEqual({name: house.mark(name) for name in house.branches()}, plain.marks)
    test.assertEqual((house.here(), house.present(), house.watched()), (plain.here, plain.present(), plain.watched))
