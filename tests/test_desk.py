"""Promise [59]: the desk."""

import random

from cancelsback.desk import Desk
from cancelsback.errors import InvalidCommand, InvalidText, MergeError, Refused
from cancelsback.live import Live
from tests.support import Case


def told(text):
    return " ".join(str(letter) for letter in text) if text else "empty"


def asked_of(live, command):
    """What a live house itself tells of the command."""
    words = command.split(" ")
    if words[0] in ("tell", "comes"):
        text = () if words[1] == "empty" else tuple(int(word) for word in words[1:])
        if words[0] == "tell":
            return str(live.tell_version(text))
        return "yes" if live.still_comes(text) else "no"
    if words[0] in ("undo", "redo"):
        return "yes" if (live.undo_deed() if words[0] == "undo" else live.redo_deed()) else "no"
    if words[0] == "list":
        return ", ".join(told(text) for text in live.texts) or "none"
    if words[0] == "bases":
        return ", ".join(str(number) for number in live.bases) or "none"
    numbers = [int(word) for word in words[1:]]
    if words[0] == "merge":
        return str(live.merge_made(*numbers))
    if words[0] == "lost":
        lost = live.lost_by(*numbers)
        return "none" if lost is None else told(lost)
    if words[0] == "release":
        live.release_version(*numbers)
    else:
        live.withdraw_base(*numbers)
    return "done"


def random_command(generator):
    word = generator.choice(("tell", "tell", "merge", "release", "release", "withdraw", "comes", "undo", "redo", "lost",
                             "list", "bases"))
    if word in ("tell", "comes"):
        return word + " " + told([generator.randrange(2) for _ in range(generator.randint(0, 3))])
    if word in ("undo", "redo", "list", "bases"):
        return word
    return " ".join([word] + [str(generator.randrange(5)) for _ in range(3 if word == "merge" else 1)])


def outcome(function, *arguments):
    try:
        return function(*arguments)
    except MergeError as error:
        return type(error), vars(error)


class DeskTest(Case):

    def test_a_day_at_the_desk(self):
        desk = Desk()
        self.assertIsNone(desk.live)
        rows = (("start", "none"), ("list", "none"), ("bases", "none"), ("undo", "no"), ("redo", "no"),
                ("comes empty", "no"), ("tell 0 1", "0"), ("tell 0 2 1", "1"), ("tell empty", "2"), ("undo", "yes"),
                ("release 0", "done"), ("bases", "0"), ("comes 0 2 2 1", "yes"), ("merge 0 1 1", "2"),
                ("list", "0 1, 0 2 1, 0 2 2 1"), ("lost 0", "0 2 2 2 1"), ("release 2", "done"), ("bases", "0, 2"),
                ("withdraw 0", "done"), ("bases", "2"), ("comes 0 2 2 2 1", "no"), ("undo", "yes"), ("bases", "0, 2"),
                ("redo", "yes"), ("redo", "no"), ("lost 2", "none"), ("tell empty", "3"), ("redo", "no"),
                ("list", "0 1, 0 2 1, 0 2 2 1, empty"), ("comes 99", "no"), ("tell 0 1", "4"), ("start", "none"),
                ("list", "none"), ("undo", "no"))
        for command, answer in rows:
            self.assertEqual(desk.say(command), answer, command)
        self.assertIsInstance(desk.live, Live)

    def test_lost_tells_texts(self):
        desk = Desk()
        answers = [desk.say(command) for command in ("start", "tell 0", "tell empty", "release 0", "lost 0", "merge 0 1 1")
                   if command != "merge 0 1 1"]
        self.assertEqual(answers, ["none", "0", "1", "done", "none"])
        self.refuses(Refused, "clash", desk.say, "merge 0 1 1")
        self.assertEqual([desk.say(command) for command in ("tell 0 0", "withdraw 0", "release 2", "lost 2")],
                         ["2", "done", "done", "none"])
        desk = Desk()
        answers = [desk.say(command) for command in ("start", "tell 0 0", "tell 0", "release 0", "lost 0")]
        self.assertEqual(answers, ["none", "0", "1", "done", "empty"])

    def test_as_the_live_house_tells(self):
        generator = random.Random(59)
        refused = 0
        for _ in range(60):
            desk = Desk()
            self.assertEqual(desk.say("start"), "none")
            live = Live()
            for _ in range(25):
                if len(live.texts) > 5:
                    break
                command = random_command(generator)
                answer = outcome(asked_of, live, command)
                self.assertEqual(outcome(desk.say, command), answer, command)
                self.assertEqual((desk.live.texts, desk.live.bases), (live.texts, live.bases))
                refused += isinstance(answer, tuple)
        self.assertGreater(refused, 50)

    def test_commands_ahead_of_start(self):
        desk = Desk()
        for command in ("tell 0", "list", "bases", "undo", "redo", "merge 0 0 0", "release 0", "withdraw 0", "comes 0",
                        "lost 0", "tell 100", "", " ", "start ", " start", "start 0", "Start", "start\n", None, 1, True,
                        ["start"], ("start",), Live()):
            with self.assertRaises(InvalidCommand):
                desk.say(command)
            self.assertIsNone(desk.live)

    def test_commands_that_are_none(self):
        desk = Desk()
        for command in ("start", "tell 0 1", "tell 0 2 1", "release 0"):
            desk.say(command)
        live, texts, bases = desk.live, desk.live.texts, desk.live.bases
        for command in ("", " ", "tell", "tell ", "tell  0", " tell 0", "tell 0 ", "tell 00", "tell 01", "tell 0 00",
                        "tell -1", "tell +1", "tell 1.0", "tell x", "tell 0, 1", "tell Empty", "tell empty empty",
                        "tell empty 0", "tell 0 empty", "tell 1000000000", "tell 100 1000000000", "tell 0000000001", "tell\n0",
                        "tell 0\n", "tell\t0", "TELL 0", "comes", "comes ", "comes 00", "merge", "merge 0 0", "merge 0 0 0 0",
                        "merge 0, 0, 0", "merge 0 0 x", "merge 00 0 0", "merge  0 0 0", "release", "release 0 1",
                        "release 01", "release empty", "withdraw", "withdraw 0 0", "withdraw none", "lost", "lost 0 0",
                        "lost none", "undo 0", "undo ", "redo 1", "list 0", "list ", "bases 0", "none", "empty", "0",
                        "tell \u0661", "tell \u00b2", "start 0", "start start", "list, bases", "release 1000000000",
                        "merge 0 1 1\n", "tell 0 _", "tell 1_0", b"list", None, 0, True, ["list"], ("undo",), desk):
            with self.assertRaises(InvalidCommand) as caught:
                desk.say(command)
            self.assertIs(type(caught.exception), InvalidCommand)
            self.assertIs(desk.live, live)
            self.assertEqual((live.texts, live.bases), (texts, bases))

    def test_errors_of_what_is_done(self):
        desk = Desk()
        for command in ("start", "tell 0 1", "tell 0 2 1", "tell 3", "release 0"):
            desk.say(command)
        rows = (("tell 100", InvalidText, -1), ("tell 0 999999999 0", InvalidText, -1), ("comes 100", InvalidText, -1),
                ("merge 1 0 0", Refused, "base"), ("merge 9 9 9", Refused, "base"), ("merge 0 3 9", Refused, "mine"),
                ("merge 0 1 999999999", Refused, "yours"), ("merge 0 2 2", Refused, "clash"), ("release 3", Refused, "version"),
                ("release 0", Refused, "base"), ("withdraw 1", Refused, "base"), ("lost 2", Refused, "base"))
        state = desk.live.texts, desk.live.bases
        for command, error, kept in rows:
            self.refuses(error, kept, desk.say, command)
            self.assertEqual((desk.live.texts, desk.live.bases), state)
        self.assertEqual(desk.say("tell 99"), "3")

    def test_long_commands(self):
        desk = Desk()
        desk.say("start")
        self.assertEqual(desk.say("tell " + " ".join(["7"] * 4990)), "0")
        self.assertEqual(desk.say("list"), " ".join(["7"] * 4990))
        with self.assertRaises(InvalidCommand):
            desk.say("tell" + " 7" * 4990 + " ")
        with self.assertRaises(InvalidCommand):
            desk.say("x" * 10000)

    def test_the_desk_is_plain(self):
        desk = Desk()
        with self.assertRaises(TypeError):
            iter(desk)
        with self.assertRaises(TypeError):
            len(desk)
        self.assertEqual(desk.say(command="start"), "none")
        other = Desk()
        self.assertIsNone(other.live)
        first = desk.live
        desk.say("start")
        self.assertIsNot(desk.live, first)
