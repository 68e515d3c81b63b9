"""Consoles: lines that tell a house what to do, and ask it what there is."""

from bushcoins.errors import BadAct, BadText, NothingDone, UnknownName, UnlikeGroves
from bushcoins.printer import bush_text, deed_text, place_text
from bushcoins.reader import bush_of, lexemes_of, places_in, rows_of


def joints_and_bush(read):
    """Return the joints and the bush that the lexemes behind a plant or a place of a graft tell."""
    end = read.index(")")
    names = [lexeme for lexeme in read[1:end] if lexeme != ","]
    joints = tuple([(names[k], names[k + 1]) for k in range(0, len(names), 2)])
    return joints, bush_of(read[end + 1:])


def act_of(read):
    """Return the act that the lexemes of a line tell, or None if they tell none."""
    word = read[0]
    if word in ("hang", "stretch", "nail", "free", "prune"):
        return (word, *places_in(read[1:]))
    if word == "fell":
        return (word, int(read[1]))
    if word == "goal":
        return (word, tuple([bush_of(row) for row in rows_of(read[2:-1])]) if len(read) > 1 else None)
    if word == "plant":
        return (word, *joints_and_bush(read[1:]))
    if word == "graft":
        return (word, *places_in(read[1:3]), *joints_and_bush(read[3:]))
    return None


def kept(house, name):
    """Keep the present grove under a name, and return the number of marks."""
    house.keep(name)
    return len(house.marks())


def changed(house, read):
    """Do what the lexemes of a line tell, and return the number that answers it; None if they only ask."""
    act = act_of(read)
    if act is not None:
        return house.do(act)
    if read[0] == "undo":
        return house.undo()
    if read[0] == "redo":
        return house.redo()
    return kept(house, read[1]) if read[0] == "keep" else None


def left_text(house):
    """Return the text of the coins left."""
    return "none" if house.goal() is None else str(house.left())


def paid_text(house):
    """Return the text of the coins paid."""
    return ", ".join([f"{colour} {many}" for colour, many in house.paid() if many > 0])


def way_text(house):
    """Return the text of a fewest way to the goal."""
    return "none" if house.goal() is None else "; ".join([deed_text(deed) for deed in house.way()])


def told(house, read):
    """Return the answer to a line that only asks."""
    word = read[0]
    if word == "show":
        return "; ".join([bush_text(bush) for bush in house.grove().bushes()])
    if word == "left":
        return left_text(house)
    if word == "paid":
        return paid_text(house)
    if word == "way":
        return way_text(house)
    if word == "at":
        return house.grove().joint(places_in(read[1:])[0])
    if word == "where":
        return place_text(house.grove().place(read[1]))
    if word == "to":
        return str(house.coins_to(read[1]))
    return ", ".join([place_text(place) for place in house.nails()])


def answer(house, line):
    """Do what a line says, and return the answer."""
    read = lexemes_of("LINE", line)
    number = changed(house, read)
    return told(house, read) if number is None else str(number)


class Console:
    """Speaks for a house."""

    def __init__(self, house):
        self._house = house

    def house(self):
        """Return the house."""
        return self._house

    def say(self, line):
        """Do what a line says, and return the answer; it tells the error if there is one."""
        try:
            return answer(self._house, line)
        except BadText as bad_text:
            return f"no BadText {bad_text.place}"
        except BadAct as bad_act:
            return f"no BadAct {bad_act.word}"
        except NothingDone:
            return "no NothingDone"
        except UnknownName:
            return "no UnknownName"
        except UnlikeGroves:
            return "no UnlikeGroves"
