"""A desk with a program, that is told rows of words and answers each with a text."""

from arcmill.alike import alike
from arcmill.areas import area
from arcmill.asked import asked
from arcmill.changes import changed
from arcmill.errors import NoKin, NoRow, NoText, TooMuch
from arcmill.few import joined
from arcmill.going import drawn
from arcmill.strokes import strokes
from arcmill.texts import fraction_of, number_text, read, whole_of, written

NOT_KNOWN = "not known"
NOTHING = "nothing"
RULES = ("odd", "wound")
PARTS = {"1": 1, "2": 2, "3": 3, "4": 4}


def program_in(words):
    """The program of the words of LINES."""
    return read(" ".join(words).replace(" ; ", "\n"))


def say_show(program, words):
    """The program's LINES."""
    if words != []:
        return NOT_KNOWN
    return NOTHING if program == () else written(program).replace("\n", " ; ")


def say_pieces(program, words):
    """How many pieces still and each end have."""
    if words != []:
        return NOT_KNOWN
    still, ends = drawn(program)
    return " ".join([str(len(pieces)) for pieces in [still] + [end[3] for end in ends]])


def say_few(program, words):
    """How many joined pieces still has."""
    if words != []:
        return NOT_KNOWN
    return str(len(joined([row[0] for row in drawn(program)[0]])))


def say_point(program, words):
    """Whether a point is drawn, by which row and in which round."""
    point = tuple([fraction_of(word) for word in words])
    if len(point) != 2 or None in point:
        return NOT_KNOWN
    still, ends = drawn(program)
    told = asked((still, ends), point)
    if told[0] == "still":
        return f"drawn {still[told[1]][1]}"
    if told[0] == "end":
        return f"drawn {ends[told[1]][3][told[2]][1]} in {told[3]}"
    return "not drawn"


def say_like(program, words):
    """Whether the drawing is alike to that of LINES."""
    other = program_in(words)
    return alike(drawn(program), drawn(other))[0]


def say_area(program, words):
    """Low and high of the area of the program's strokes."""
    if len(words) != 2 or words[0] not in RULES or words[1] not in PARTS:
        return NOT_KNOWN
    low, high = area(strokes(program), words[0], PARTS[words[1]])
    return f"{number_text(low)} {number_text(high)}"


ANSWERS = {
    "show": say_show,
    "pieces": say_pieces,
    "few": say_few,
    "point": say_point,
    "like": say_like,
    "area": say_area,
}


class Desk:
    """A desk, at first with the program without rows."""

    def __init__(self):
        self.program = ()
        # The programs ahead of each put that isn't taken back yet.
        self.past = []
        self.taken = []

    def say(self, row):
        """The answer to a row."""
        words = row.split(" ")
        if "" in words or "\n" in row:
            return NOT_KNOWN
        try:
            answer = self.answer_to(words[0], words[1:])
        except NoRow as wrong_row:
            return f"no row {wrong_row.row}"
        except NoText as wrong_text:
            return f"no text {wrong_text.line}"
        except TooMuch:
            return "too much"
        except NoKin:
            return "no kin"
        if answer == "ok":
            self.taken.append(row)
        return answer

    def answer_to(self, word, words):
        """The answer to a row of a word and those behind it, where nothing is refused."""
        if word == "put":
            return self.put_rows(words)
        if word == "back":
            return self.take_back() if words == [] else NOT_KNOWN
        if word not in ANSWERS:
            return NOT_KNOWN
        deed = ANSWERS[word]
        return deed(self.program, words)

    def put_rows(self, words):
        """Changes the program at a number by LINES."""
        number = whole_of(words[0]) if words != [] else None
        if number is None:
            return NOT_KNOWN
        program = changed(self.program, number, program_in(words[1:]))
        self.past.append(self.program)
        self.program = program
        return "ok"

    def take_back(self):
        """Takes the last put back."""
        if self.past == []:
            return NOTHING
        self.program = self.past.pop()
        return "ok"

    def journal(self):
        """A new list of the rows that changed the program, in order."""
        return list(self.taken)


def desk_of(journal):
    """The desk to which all rows of a journal were told."""
    desk = Desk()
    for row in journal:
        desk.say(row)
    return desk
