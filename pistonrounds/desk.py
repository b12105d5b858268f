"""Desks: told row by row what to do with a round and a circuit of it."""

from pistonrounds.back import read_back
from pistonrounds.circuits import MOST_PISTONS
from pistonrounds.clashes import clashes
from pistonrounds.coded import coded_circuit, coded_rest
from pistonrounds.cuts import fewest_cut
from pistonrounds.errors import NoAsk, NoText, NoWork
from pistonrounds.events import after, can_go
from pistonrounds.groups import chain_cut, group_circuit, group_rest
from pistonrounds.needs import marks_needed
from pistonrounds.plain import plain_circuit, plain_rest
from pistonrounds.texts import LETTERS, read_round, show_move, show_round
from pistonrounds.walks import walk

FIRST_SECTIONS = (1, 1)
OF_ROUND = ("plain", "groups", "chain", "coded", "clashes", "cut", "needed")
OF_CIRCUIT = ("key", "go", "can", "places", "goes", "back")
# Each word behind one of these is one of those beside it.
WORDS_BEHIND = {
    "sections": ("1", "2", "3", "4"),
    "key": ("0", "1"),
    "go": ("a", "b", "c", "d", "e", "f"),
}
OK = "ok"
NOTHING = "-"


def take_sections(desk, words):
    """The words are the desk's sections from now on."""
    desk.sections = tuple([int(word) for word in words])
    desk.steps = None
    return take_circuit(desk, None, None)


def take_round(desk, words):
    """The words are the desk's round from now on; NoText, NoRound."""
    desk.steps = read_round(desk.sections, " ".join(words))
    return take_circuit(desk, None, None)


def take_circuit(desk, circuit, stand):
    """The circuit is the desk's from now on, and stands so; None for none."""
    desk.circuit = circuit
    desk.stand = stand
    return OK


def make_plain(desk, words):
    """Makes the plain circuit of the round."""
    sections, steps = desk.sections, desk.steps
    return take_circuit(desk, plain_circuit(sections, steps), plain_rest(sections, steps))


def make_groups(desk, words):
    """Makes the circuit by the groups of the fewest cut."""
    return make_by_cut(desk, fewest_cut(desk.steps))


def make_chain(desk, words):
    """Makes the circuit with all steps as begins."""
    return make_by_cut(desk, chain_cut(desk.steps))


def make_by_cut(desk, cut):
    """Makes the circuit by the groups of a cut."""
    sections, steps = desk.sections, desk.steps
    return take_circuit(desk, group_circuit(sections, steps, cut), group_rest(sections, steps, cut))


def make_coded(desk, words):
    """Makes the circuit by the code of the fewest cut."""
    sections, steps = desk.sections, desk.steps
    cut = fewest_cut(steps)
    return take_circuit(desk, coded_circuit(sections, steps, cut), coded_rest(sections, steps, cut))


def tell_clashes(desk, words):
    """How many clashes the round has."""
    return str(len(clashes(desk.sections, desk.steps)))


def tell_cut(desk, words):
    """The begins of the fewest cut."""
    return show_all(fewest_cut(desk.steps))


def tell_needed(desk, words):
    """How many memories are needed."""
    return str(marks_needed(desk.sections, desk.steps))


def turn_key(desk, words):
    """Turns a key; Restless."""
    return do_event(desk, ("turn", int(words[0])))


def let_go(desk, words):
    """Lets a piston go one place; NoEvent, Restless."""
    return do_event(desk, ("go", LETTERS.index(words[0])))


def do_event(desk, event):
    """Does an event where the circuit stands; NoEvent, Restless."""
    desk.stand = after(desk.circuit, desk.stand, event)
    return OK


def tell_can(desk, words):
    """Which pistons can go, and to which side."""
    moves = can_go(desk.circuit, desk.stand)
    return NOTHING if moves == () else " ".join([show_move(move) for move in moves])


def tell_places(desk, words):
    """Where all pistons are."""
    return show_all(desk.stand[0])


def tell_goes(desk, words):
    """Whether the circuit goes the round from where it stands; TooGreat."""
    word, parts = walk(desk.circuit, desk.steps, desk.stand)
    return "yes" if word == "goes" else "no"


def tell_back(desk, words):
    """The round that is read back from where the circuit stands."""
    steps = read_back(desk.circuit, desk.stand)
    return NOTHING if steps is None else show_round(steps)


def show_all(numbers):
    """The numbers with a blank between each two."""
    return " ".join([str(number) for number in numbers])


DEEDS = {
    "sections": take_sections,
    "round": take_round,
    "plain": make_plain,
    "groups": make_groups,
    "chain": make_chain,
    "coded": make_coded,
    "clashes": tell_clashes,
    "cut": tell_cut,
    "needed": tell_needed,
    "key": turn_key,
    "go": let_go,
    "can": tell_can,
    "places": tell_places,
    "goes": tell_goes,
    "back": tell_back,
}


def asked_words(row):
    """The words of a row; NoAsk for what is no text, and for a first word or a number of words that is none."""
    if not isinstance(row, str):
        raise NoAsk("a row is a text")
    words = row.split(" ")
    if words[0] not in DEEDS or not is_so_long(words[0], len(words) - 1):
        raise NoAsk("this is nothing that a desk can be asked")
    return words


def is_so_long(word, many):
    """Whether so many words may stand behind the first one."""
    if word == "sections":
        return 1 <= many <= MOST_PISTONS
    if word == "round":
        return many >= 1
    return many == (1 if word in ("key", "go") else 0)


def check_words(word, words):
    """NoText, if the words behind the first one don't read as they should."""
    # A round's words are read as it is taken: nothing else may be refused ahead of that.
    if word in WORDS_BEHIND and not all([part in WORDS_BEHIND[word] for part in words]):
        raise NoText("a word doesn't read as it should")


class Desk:
    """Keeps sections, a round and a circuit with a settled stand, and does with them what it is told."""

    def __init__(self):
        self.sections = FIRST_SECTIONS
        self.steps = None
        self.circuit = None
        self.stand = None

    def say(self, row):
        """Does what a row asks for, and tells the answer; NoAsk, NoText, NoWork, then what the deed raises."""
        words = asked_words(row)
        check_words(words[0], words[1:])
        if words[0] in OF_ROUND and self.steps is None:
            raise NoWork("there is no round")
        if words[0] in OF_CIRCUIT and self.circuit is None:
            raise NoWork("there is no circuit")
        deed = DEEDS[words[0]]
        return deed(self, words[1:])
