"""Pages: the rows of a desk's book as lines, reading them back, and repairs as lines [10.15]."""

from wheelchorus.cards import EMPTY, MOST_CREWS, MOST_MOVES, digits_in, is_crew, is_move, joined
from wheelchorus.errors import BadPage
from wheelchorus.kinds import is_digit, is_whole_within
from wheelchorus.numbers import is_number
from wheelchorus.room import BACK, CALL, MORE

SEPARATOR = " / "
WORD_WIDTH = 5
NUMBER_WIDTH = 5
MOST_TICK_DIGITS = 9
MOST_SHORT = 6


def book_page(rows):
    return tuple([row_line(row) for row in rows])


def row_line(row):
    word, tick, number = row[:3]
    if word == BACK:
        parts = [crews_text(crews) for crews in row[3:]]
    else:
        grade, went, moved, short_by = row[3:]
        parts = [str(grade), crews_text(went), pairs_text(moved), str(short_by)]
    return f"{tick:>6} {word:<5}{number:<5}{SEPARATOR.join(parts)}"


def crews_text(crews):
    return joined(crews) if len(crews) > 0 else EMPTY


def pairs_text(pairs):
    return " ".join([f"{crew}>{station}" for crew, station in pairs]) if len(pairs) > 0 else EMPTY


def read_book(lines):
    rows = []
    for index, line in enumerate(lines):
        row = read_row(line) if isinstance(line, str) else None
        # A line that says the same in another form is not the line of the row.
        if row is None or row_line(row) != line:
            raise BadPage(index)
        rows.append(row)
    return tuple(rows)


def read_row(line):
    """The desk row that this line tells, whatever blanks and zeros stand in it; None if it tells none."""
    tick_text, _, rest = line.lstrip(" ").partition(" ")
    tick = read_tick(tick_text)
    word = rest[:WORD_WIDTH].rstrip(" ")
    number = rest[WORD_WIDTH:WORD_WIDTH + NUMBER_WIDTH].rstrip(" ")
    told = read_told(word, rest[WORD_WIDTH + NUMBER_WIDTH:].split(SEPARATOR))
    if tick is None or not is_number(number) or told is None:
        return None
    return (word, tick, number) + told


def read_tick(text):
    if not 1 <= len(text) <= MOST_TICK_DIGITS or not all([is_digit(letter) for letter in text]):
        return None
    return int(text)


def read_told(word, parts):
    """What an event with this word told, by its parts; None if it cannot have told this."""
    if word == BACK and len(parts) == 2:
        told = (read_crews(parts[0]), read_crews(parts[1]))
    elif word in (CALL, MORE) and len(parts) == 4:
        told = (read_grade(word, parts[0]), read_crews(parts[1]), read_pairs(parts[2]), read_short(parts[3]))
    else:
        return None
    return None if None in told else told


def read_grade(word, text):
    grades = ("1",) if word == CALL else ("2", "3")
    return int(text) if text in grades else None


def read_short(text):
    return int(text) if is_digit(text) and is_whole_within(int(text), 0, MOST_SHORT) else None


def read_crews(text):
    if text == EMPTY:
        return ()
    crews = tuple(digits_in(text, " "))
    return crews if len(crews) <= MOST_CREWS and all([is_crew(crew) for crew in crews]) else None


def read_pairs(text):
    if text == EMPTY:
        return ()
    pairs = tuple([tuple(digits_in(piece, ">")) for piece in text.split(" ")])
    return pairs if len(pairs) <= MOST_MOVES and all([is_move(pair) for pair in pairs]) else None


def repairs_page(repairs):
    return tuple([set_line(repairs, chosen) for chosen, _ in repairs.entries])


def set_line(repairs, chosen):
    words = []
    if chosen in repairs.least:
        words.append("least")
    if chosen in repairs.firm:
        words.append("firm")
    told = " ".join(words) if len(words) > 0 else EMPTY
    return f"{crews_text(chosen):<12}{repairs.fate(chosen):<8}{told}"
