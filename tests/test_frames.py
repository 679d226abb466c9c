import unittest

from tests.samples import ODD_VALUES, road_frame
from worthhouse.errors import BadFrame, BadName, UnknownName
from worthhouse.frames import Frame, made_frame

NO_WORDS = ["", "a" * 13, "A", "1a", "a b", "a.", ".a", "a_b", "a-b", "@a", "a\n", "\u00e9", "a\u0663", " a"]
MADE_NAMES = ["q.0", "q.7", "q.10", "a12.999", "abcdefghijkl.100"]
NO_MADE_NAMES = ["q.", ".0", "q.00", "q.01", "q.1000", "q.-1", "q.x", "q.0.0", "Q.0", "q 0", "q.\u0663", "1.0", "abcdefghijklm.0"]
WORDS = ["a", "a1", "z" * 12, "a00000000000", "x9y"]


class Frames(unittest.TestCase):
    def test_ordinary(self):
        frame = road_frame()
        self.assertEqual(frame.kinds(), ["town", "sort"])
        self.assertEqual(
            frame.told(),
            [("road", ("town", "town")), ("is", ("town", "sort")), ("open", ()), ("deal", ("town", "sort", "town"))],
        )
        self.assertEqual([name for name, _ in frame.ruled()], ["way", "good", "any", "swap"])
        self.assertEqual(frame.places("road"), ("town", "town"))
        self.assertEqual(frame.places("open"), ())
        self.assertEqual(frame.places("swap"), ("town", "sort", "town"))
        self.assertIs(frame.is_ruled("way"), True)
        self.assertIs(frame.is_ruled("road"), False)

    def test_nothing_in_it(self):
        frame = Frame([], [], [])
        self.assertEqual((frame.kinds(), frame.told(), frame.ruled()), ([], [], []))

    def test_tuples_for_lists(self):
        frame = Frame(("k",), (("t", ("k",)),), (("r", ()),))
        self.assertTrue(frame == Frame(["k"], [("t", ("k",))], [("r", ())]))
        self.assertEqual(frame.told(), [("t", ("k",))])

    def test_unknown_names(self):
        frame = road_frame()
        for name in ["town", "none", "", "q.0"] + ODD_VALUES:
            for call in (frame.places, frame.is_ruled):
                with self.assertRaises(UnknownName) as caught:
                    call(name)
                self.assertIs(caught.exception.name, name)

    def test_same_names_of_unlike_sorts(self):
        frame = Frame(["a", "b"], [("b", ("a",))], [("a", ("b",))])
        self.assertEqual((frame.places("a"), frame.places("b")), (("b",), ("a",)))

    def test_words(self):
        for word in WORDS:
            frame = Frame([word], [(word, (word,))], [])
            self.assertEqual(frame.kinds(), [word])
            self.assertEqual(Frame([], [], [(word, ())]).ruled(), [(word, ())])

    def bad_name(self, *parts, make=Frame):
        with self.assertRaises(BadName, msg=parts) as caught:
            make(*parts)
        return caught.exception.name

    def bad_frame(self, *parts, make=Frame):
        with self.assertRaises(BadFrame, msg=parts) as caught:
            make(*parts)
        return caught.exception.name

    def test_bad_names(self):
        for name in NO_WORDS + MADE_NAMES + NO_MADE_NAMES:
            self.assertEqual(self.bad_name(["a", name], [], []), name)
            self.assertEqual(self.bad_name(["a"], [("b", ()), (name, ())], []), name)
            self.assertEqual(self.bad_name(["a"], [], [("b", ()), (name, ())]), name)

    def test_names_come_in_their_order(self):
        self.assertEqual(self.bad_name(["X", "Y"], [("Z", ())], [("W", ())]), "X")
        self.assertEqual(self.bad_name(["x"], [("Z", ())], [("W", ())]), "Z")
        self.assertEqual(self.bad_name(["x"], [("z", ())], [("W", ()), ("V", ())]), "W")

    def test_names_come_ahead_of_all_else(self):
        self.assertEqual(self.bad_name(["a", "a"], [("b", ("c",))], [("W", ())]), "W")

    def test_bad_frames(self):
        self.assertEqual(self.bad_frame(["a", "b", "b", "a"], [], []), "b")
        self.assertEqual(self.bad_frame(["a"], [("t", ()), ("t", ())], []), "t")
        self.assertEqual(self.bad_frame(["a"], [("t", ())], [("r", ()), ("t", ("a",))]), "t")
        self.assertEqual(self.bad_frame(["a"], [("t", ("a", "b"))], []), "t")
        self.assertEqual(self.bad_frame(["a"], [], [("t", ("t",))]), "t")
        self.assertEqual(self.bad_frame([], [("t", ("a",))], []), "t")

    def test_frames_come_in_their_order(self):
        self.assertEqual(self.bad_frame(["a", "a"], [("t", ("zz",))], []), "a")
        self.assertEqual(self.bad_frame(["a"], [("t", ("zz",)), ("u", ("zz",))], []), "t")
        self.assertEqual(self.bad_frame(["a"], [("t", ()), ("u", ("a",) * 4), ("t", ())], []), "u")
        self.assertEqual(self.bad_frame(["a"], [("t", ()), ("t", ())], [("r", ("zz",))]), "t")
        self.assertEqual(self.bad_frame(["a"], [("t", ())], [("r", ("zz",)), ("t", ())]), "r")

    def test_three_places_and_four(self):
        frame = Frame(["a"], [("t", ("a",) * 3)], [("r", ("a",) * 3)])
        self.assertEqual(frame.places("r"), ("a", "a", "a"))
        self.assertEqual(self.bad_frame(["a"], [("t", ("a",) * 4)], []), "t")
        self.assertEqual(self.bad_frame(["a"], [], [("r", ("a",) * 4)]), "r")

    def test_equal(self):
        frame = Frame(["a", "b"], [("t", ("a",)), ("u", ())], [("r", ("b",)), ("s", ())])
        self.assertTrue(frame == Frame(["a", "b"], [("t", ("a",)), ("u", ())], [("r", ("b",)), ("s", ())]))
        for other in (
            Frame(["b", "a"], [("t", ("a",)), ("u", ())], [("r", ("b",)), ("s", ())]),
            Frame(["a", "b", "c"], [("t", ("a",)), ("u", ())], [("r", ("b",)), ("s", ())]),
            Frame(["a", "b"], [("u", ()), ("t", ("a",))], [("r", ("b",)), ("s", ())]),
            Frame(["a", "b"], [("t", ("b",)), ("u", ())], [("r", ("b",)), ("s", ())]),
            Frame(["a", "b"], [("t", ("a",)), ("u", ())], [("s", ()), ("r", ("b",))]),
            Frame(["a", "b"], [("t", ("a",)), ("u", ())], [("r", ("b",))]),
            Frame(["a", "b"], [("t", ("a",))], [("u", ()), ("r", ("b",)), ("s", ())]),
        ):
            self.assertFalse(frame == other)
            self.assertTrue(frame != other)
        for other in ODD_VALUES + [object()]:
            self.assertIs(frame == other, False)

    def test_nothing_is_kept_or_shared(self):
        kinds, told, ruled = ["a"], [("t", ("a",))], [("r", ())]
        frame, twin = Frame(kinds, told, ruled), Frame(["a"], [("t", ("a",))], [("r", ())])
        self.assertEqual((kinds, told, ruled), (["a"], [("t", ("a",))], [("r", ())]))
        kinds.append("b")
        told.clear()
        ruled[0] = ("t", ("b",))
        frame.kinds().append("c")
        frame.told().append(("u", ()))
        frame.ruled().clear()
        self.assertTrue(frame == twin)
        self.assertEqual((frame.kinds(), frame.told(), frame.ruled()), (["a"], [("t", ("a",))], [("r", ())]))


class MadeFrames(unittest.TestCase):
    def test_made_names_and_many_places(self):
        frame = made_frame(["a"], [("q.0", ("a",) * 5)], [("q.1", ()), ("r", ("a",) * 4)])
        self.assertIsInstance(frame, Frame)
        self.assertEqual(frame.places("q.0"), ("a",) * 5)
        self.assertEqual(frame.places("r"), ("a",) * 4)
        self.assertIs(frame.is_ruled("q.1"), True)
        self.assertIs(frame.is_ruled("q.0"), False)
        self.assertEqual(frame.told(), [("q.0", ("a",) * 5)])
        self.assertEqual(frame.ruled(), [("q.1", ()), ("r", ("a",) * 4)])

    def test_equal_to_a_frame(self):
        self.assertTrue(made_frame(["a"], [("t", ("a",))], []) == Frame(["a"], [("t", ("a",))], []))
        self.assertFalse(made_frame(["a"], [("q.0", ("a",))], []) == made_frame(["a"], [("q.1", ("a",))], []))

    def test_which_names(self):
        for name in MADE_NAMES + WORDS:
            self.assertEqual(made_frame([], [(name, ())], []).told(), [(name, ())])
            self.assertEqual(made_frame([], [], [(name, ())]).ruled(), [(name, ())])
        for name in NO_WORDS + NO_MADE_NAMES:
            for parts in (([], [(name, ())], []), ([], [], [("a", ()), (name, ())])):
                with self.assertRaises(BadName) as caught:
                    made_frame(*parts)
                self.assertEqual(caught.exception.name, name)

    def test_kinds_are_words(self):
        with self.assertRaises(BadName) as caught:
            made_frame(["q.0"], [("Z", ())], [])
        self.assertEqual(caught.exception.name, "q.0")

    def test_errors_otherwise(self):
        for parts, name in [
            ((["a", "a"], [], []), "a"),
            ((["a"], [("q.0", ())], [("q.0", ())]), "q.0"),
            ((["a"], [("t", ("a", "a", "a", "a", "b"))], []), "t"),
        ]:
            with self.assertRaises(BadFrame) as caught:
                made_frame(*parts)
            self.assertEqual(caught.exception.name, name)

    def test_nothing_is_kept(self):
        told = [("q.0", ("a",))]
        frame = made_frame(["a"], told, [])
        told.clear()
        self.assertEqual(frame.told(), [("q.0", ("a",))])


if __name__ == "__main__":
    unittest.main()
