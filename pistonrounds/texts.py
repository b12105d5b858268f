"""Rounds and circuits written as texts, and read again."""

from pistonrounds.circuits import MOST_PISTONS, lines_of, made_circuit
from pistonrounds.errors import NoText
from pistonrounds.lines import parts_of
from pistonrounds.rounds import made_round

LETTERS = "abcdef"
# In the order of the sides: in, out.
SIGNS = "-+"
FIGURES = "0123456789"
MOST_FIGURES = 2
# So many numbers have no more figures than that: so many memories can have a name.
MOST_NUMBERS = 100
OPENINGS = ("(and", "(or", "(not")


def show_round(steps):
    """The round as it is written."""
    return " ".join(["".join([show_move(move) for move in step]) for step in steps])


def show_move(move):
    """The move as it is written."""
    p, side = move
    return LETTERS[p] + SIGNS[side]


def read_round(sections, text):
    """The round that is written so; NoText, NoRound."""
    return made_round(sections, read_steps(text))


def read_steps(text):
    """The steps that are written so, a round or not; NoText."""
    return tuple([read_step(word) for word in text.split(" ")])


def read_step(text):
    """The step that is written so; NoText."""
    if text == "":
        raise NoText("a step has one move at least")
    return tuple([read_move(text[at:at + 2]) for at in range(0, len(text), 2)])


def read_move(text):
    """The move that is written so; NoText."""
    if len(text) != 2 or text[0] not in LETTERS or text[1] not in SIGNS:
        raise NoText("a move is a letter and a sign")
    return (LETTERS.index(text[0]), SIGNS.index(text[1]))


def show_circuit(circuit):
    """The circuit as it is written."""
    sections, pilots, memories, keys = circuit
    heads = heads_of(len(pilots), len(memories))
    rows = [head + " " + show_line(line) for head, line in zip(heads, lines_of(circuit))]
    return "\n".join([show_numbers("sections", sections)] + rows + [show_numbers("keys", (keys,))])


def show_numbers(word, numbers):
    """The word with the numbers behind it, a blank ahead of each."""
    return " ".join([word] + [str(number) for number in numbers])


def heads_of(pistons, memories):
    """What stands ahead of each line of a circuit, row by row."""
    names = [LETTERS[p] for p in range(pistons)] + ["m" + str(m) for m in range(memories)]
    return [name + sign for name in names for sign in ("+", "-")]


def show_line(line):
    """The line as it is written."""
    word = line[0]
    if word == "cam":
        return LETTERS[line[1]] + str(line[2])
    if word in ("mark", "key"):
        return word[0] + str(line[1])
    return "(" + " ".join([word] + [show_line(part) for part in parts_of(line)]) + ")"


def read_circuit(text):
    """The circuit that is written so; NoText, NoCircuit."""
    rows = text.split("\n")
    sections = read_numbers("sections", rows[0])
    pistons = len(sections)
    keys = read_numbers("keys", rows[-1])
    memories, left = divmod(len(rows) - 2 - 2 * pistons, 2)
    if pistons > MOST_PISTONS or len(keys) != 1 or left != 0 or not 0 <= memories <= MOST_NUMBERS:
        raise NoText("these are not the rows of a circuit")
    pairs = read_pairs(heads_of(pistons, memories), rows[1:-1])
    return made_circuit((sections, pairs[:pistons], pairs[pistons:], keys[0]))


def read_numbers(word, row):
    """The numbers behind the word in a row, one at least; NoText."""
    words = row.split(" ")
    if words[0] != word or len(words) == 1:
        raise NoText("this row has another word, or no number")
    return tuple([read_number(part) for part in words[1:]])


def read_number(text):
    """The number of one or two figures that is written so; NoText."""
    if not 1 <= len(text) <= MOST_FIGURES or not all(sign in FIGURES for sign in text):
        raise NoText("a number is one figure or two")
    if text != "0" and text[0] == "0":
        raise NoText("a number has no 0 ahead of another figure")
    return int(text)


def read_pairs(heads, rows):
    """The pairs of lines that are written in the rows, two by two, each behind its head; NoText."""
    lines = [read_behind(head, row) for head, row in zip(heads, rows)]
    return tuple(zip(lines[0::2], lines[1::2]))


def read_behind(head, row):
    """The line that is written behind the head and a blank; NoText."""
    found, blank, text = row.partition(" ")
    if found != head:
        raise NoText("this row has another head")
    return read_line(text)


def read_line(text):
    """The line that is written so, however deep; NoText."""
    # The outermost entry takes up what stands in no bracket: at the end the whole line.
    opened = [("", [])]
    for word in text.split(" "):
        body = word.rstrip(")")
        if body in OPENINGS:
            opened.append((body[1:], []))
        else:
            opened[-1][1].append(read_single(body))
        for closing in range(len(word) - len(body)):
            close_last(opened)
    found = opened[0][1]
    if len(opened) != 1 or len(found) != 1:
        raise NoText("this is not one line")
    return found[0]


def close_last(opened):
    """Puts the line whose bracket closes into that around it; NoText."""
    if len(opened) == 1:
        raise NoText("a bracket closes that wasn't opened")
    word, parts = opened.pop()
    if word == "not" and len(parts) != 1:
        raise NoText("a not has one part")
    opened[-1][1].append((word, parts[0] if word == "not" else tuple(parts)))


def read_single(text):
    """The line of a cam, a mark or a key that is written so; NoText."""
    number = read_number(text[1:])
    letter = text[0]
    if letter == "m":
        return ("mark", number)
    if letter == "k":
        return ("key", number)
    if letter not in LETTERS:
        raise NoText("this is no piston's letter")
    return ("cam", LETTERS.index(letter), number)
