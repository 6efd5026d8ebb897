"""Leads a system by lines of words."""

from leastpowers.errors import Broken, NoCommand, NoDuty, NoIndex, NoText, Nothing, TooMany, Wrong
from leastpowers.following import follows
from leastpowers.leastplan import barred_events
from leastpowers.live import Live
from leastpowers.reader import read_integer, read_size, read_system, read_wait, words_of
from leastpowers.texts import show_system

MOST_DIGITS = 9


def read_index(word):
    """The integer from 0 on, of at most nine digits, that a word shows."""
    if len(word) > MOST_DIGITS:
        raise NoText(0)
    return read_size(0, word)


def read_gap(word):
    """The integer, of at most nine digits, that a word shows."""
    if len(word.removeprefix("-")) > MOST_DIGITS:
        raise NoText(0)
    return read_integer(0, word)


def read_deed(many, words):
    """The tuple (word, argument) that tells what a Live is to do, None if words tell nothing of this kind."""
    word, more = words[0], words[1:]
    if word == "wait":
        return (word, read_wait(many, 0, words))
    if word in ("drop", "free") and len(more) == 1:
        return (word, read_index(more[0]))
    if word == "owe" and len(more) == 2 and more[0] == "can":
        return (word, ("can", read_index(more[1])))
    if word == "owe" and len(more) == 4 and more[0] == "ahead":
        return (word, ("ahead", read_index(more[1]), read_index(more[2]), read_gap(more[3])))
    if word in ("back", "again") and len(more) == 0:
        return (word, None)
    return None


def do_deed(live, word, argument):
    """Has a Live do what a tuple of read_deed tells."""
    if word == "wait":
        live.put_wait(argument)
    elif word == "drop":
        live.drop_wait(argument)
    elif word == "owe":
        live.owe(argument)
    elif word == "free":
        live.free(argument)
    elif word == "back":
        live.back()
    else:
        live.again()


def answer_to_deed(live, word, argument):
    """What a Live did, or the error with which it refused to."""
    try:
        do_deed(live, word, argument)
    except Broken:
        return ["refused Broken"]
    except NoDuty:
        return ["refused NoDuty"]
    except NoIndex:
        return ["refused NoIndex"]
    except Nothing:
        return ["refused Nothing"]
    except TooMany:
        return ["refused TooMany"]
    return ["done"]


def answer_to_question(live, words):
    """What words ask of a Live; raises NoCommand if they ask nothing."""
    system = live.system()
    if words[0] == "follows":
        wait = read_wait(system[0], 0, ["wait"] + words[1:])
        return ["yes" if follows(system, wait) else "no"]
    if words == ["system"]:
        return show_system(system).split("\n")
    if words == ["duties"]:
        return [show_line(duty) for duty in live.duties()]
    if words == ["plan"]:
        return [show_line(live.plan())]
    if words == ["barred"]:
        return [show_line(barred_events(system))]
    raise NoCommand()


def show_line(parts):
    """Words and orders with one blank between two."""
    return " ".join(["none" if part is None else f"{part}" for part in parts])


class Desk:
    """A Live that is led by lines."""

    def __init__(self, text):
        self._live = Live(read_system(text))

    def execute(self, line):
        """Does what a line tells, or answers what it asks."""
        if not isinstance(line, str) or "\n" in line:
            raise Wrong(0)
        words = words_of(line)
        if not words:
            raise NoCommand()
        try:
            deed = read_deed(self._live.system()[0], words)
            if deed is None:
                return answer_to_question(self._live, words)
        except NoText:
            raise NoCommand()
        return answer_to_deed(self._live, deed[0], deed[1])

    def live(self):
        """A twin of the Live."""
        return self._live.twin()
