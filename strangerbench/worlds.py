"""A world: several towns, their letters, and all that was ever done, row by row."""

from strangerbench.chests import first_chest, risen_chest, saved_of
from strangerbench.errors import NoDeed, NoStep, NoTown
from strangerbench.letterscome import came
from strangerbench.paths import path_voices, root_of
from strangerbench.townacts import acted
from strangerbench.worldtexts import log_lines


class World:
    """A world of a rule. It keeps what was so behind each row, so that the last can be undone."""

    def __init__(self, rule):
        self._rule = rule
        self._rows = []
        self._states = [first_state(rule)]

    def to_day(self, day):
        """The day is this one."""
        return self.do_row(("day", day))

    def do_act(self, town, act):
        """The town does the act; told is what that tells."""
        return self.do_row(("act", town, act))

    def let_come(self, n):
        """The letter of this number comes; told is the word for it."""
        return self.do_row(("come", n))

    def save_town(self, town):
        """One more is saved of the town; told is its number."""
        return self.do_row(("save", town))

    def fall(self, town, n=None):
        """The town falls, and rises with the saved one of this number, or with what it has; told is that rise."""
        return self.do_row(("rise", town, n))

    def do_row(self, row):
        """Does what the row of a log tells, and notes it; told is what the deed tells."""
        behind, told = behind_row(self._rule, self._states[-1], row)
        self._states.append(behind)
        self._rows.append(row)
        return told

    def day_now(self):
        """The day."""
        day, _, _, _, _, _ = self._states[-1]
        return day

    def chest_of(self, town):
        """What the town has."""
        check_town(self._rule, town)
        _, chests, _, _, _, _ = self._states[-1]
        return chests[town]

    def is_wary(self, town):
        """Whether the town is wary."""
        return self.chest_of(town)[2] is not None

    def saved_many(self, town):
        """How many are saved of the town."""
        check_town(self._rule, town)
        _, _, saved, _, _, _ = self._states[-1]
        return len(saved[town])

    def mail(self):
        """All letters ever sent, in order."""
        _, _, _, mail, _, _ = self._states[-1]
        return mail

    def burnings_ever(self):
        """All burnings that were ever done: a rising tuple."""
        _, _, _, _, burnings, _ = self._states[-1]
        return burnings

    def table_ever(self):
        """Of each matter that ever was the root and the most voices of its path, like ones once: a rising tuple."""
        _, _, _, _, _, table = self._states[-1]
        return tuple(sorted(set(list(table.values()))))

    def log(self):
        """The rule and all rows that were done."""
        return (("world", self._rule),) + tuple(self._rows)

    def undo(self):
        """The last row is as if it had never been; told is it."""
        if not self._rows:
            raise NoStep(0)
        self._states.pop()
        return self._rows.pop()

    def do_all(self, rows, *, keep=False):
        """Does the rows; where one is refused all is as ahead of the first, but what was done stays by keep."""
        if keep:
            for row in rows:
                self.do_row(row)
            return len(rows)
        states = [self._states[-1]]
        for row in rows:
            behind, _ = behind_row(self._rule, states[-1], row)
            states.append(behind)
        self._states.extend(states[1:])
        self._rows.extend(rows)
        return len(rows)

    def walks(self):
        """How many goings over rows go on: none, whenever one can ask."""
        return 0

    def __len__(self):
        return len(self._rows)

    def __str__(self):
        return " / ".join(log_lines(self.log()))

    def __eq__(self, other):
        return isinstance(other, World) and self._rule == other._rule and self._rows == other._rows

    def __ne__(self, other):
        return not isinstance(other, World) or self._rule != other._rule or self._rows != other._rows


def first_state(rule):
    """What is so ahead of all rows: the day, chests, saved ones, mail, burnings ever, by name the table ever."""
    towns = rule[0]
    chests = {town: first_chest(rule, town) for town in towns}
    saved = {town: (saved_of(chests[town]),) for town in towns}
    return (0, chests, saved, (), (), {})


def check_town(rule, town):
    """Refuses what is no town of the rule."""
    if town not in rule[0]:
        raise NoTown(town)


def behind_row(rule, state, row):
    """What is so behind the row, and what the deed tells; the state ahead of it stays as it was."""
    word = row[0]
    if word == "day":
        return (day_turned(state, row[1]), None)
    if word == "come":
        return letter_come(rule, state, row[1])
    check_town(rule, row[1])
    if word == "act":
        return town_acted(rule, state, row[1], row[2])
    if word == "save":
        return town_saved(state, row[1])
    return town_risen(rule, state, row[1], row[2])


def day_turned(state, day):
    """The state on this day, which is none of those gone by."""
    former, chests, saved, mail, burnings, table = state
    if day < former:
        raise NoDeed("day")
    return (day, chests, saved, mail, burnings, table)


def letter_come(rule, state, n):
    """The state behind the coming of the letter of this number, and the word for it."""
    _, chests, _, mail, _, _ = state
    check_number(n, mail)
    town = mail[n][2]
    chest, word, letters = came(rule, chests[town], mail[n])
    return (with_chest(state, town, chest, letters), word)


def town_acted(rule, state, town, act):
    """The state behind the town's act, and what that tells."""
    day, chests, _, _, _, _ = state
    chest, told, letters = acted(rule, chests[town], act, day=day)
    return (with_chest(state, town, chest, letters), told)


def town_saved(state, town):
    """The state with one more saved of the town, and its number."""
    day, chests, saved, mail, burnings, table = state
    number = len(saved[town])
    saved = {**saved, town: saved[town] + (saved_of(chests[town]),)}
    return ((day, chests, saved, mail, burnings, table), number)


def town_risen(rule, state, town, n):
    """The state in which the town has risen with the saved one of this number, or with what it has; and that rise."""
    day, chests, all_saved, _, _, _ = state
    saved = saved_of(chests[town])
    if n is not None:
        check_number(n, all_saved[town])
        saved = all_saved[town][n]
    # What a town has is always of its last rise, with whatever it rose.
    rise = chests[town][0][1] + 1
    chest = risen_chest(rule, saved, rise=rise, day=day)
    return (with_chest(state, town, chest, ()), rise)


def check_number(n, things):
    """Refuses a number that none of the things has."""
    if not 0 <= n < len(things):
        raise NoStep(n)


def with_chest(state, town, chest, letters):
    """The state in which the town has this chest, what it sent lies behind the mail, and nothing is forgotten."""
    day, chests, saved, mail, burnings, table = state
    ahead, book = chests[town][0], chest[0]
    if book[3:] != ahead[3:]:
        burnings = tuple(sorted(set(burnings + book[4])))
        table = most_voices(table, book[3])
    return (day, {**chests, town: chest}, saved, mail + letters, burnings, table)


def most_voices(table, matters):
    """Of each name that ever was its root, and the most voices that its path ever had, by these matters, too."""
    most = {name: table[name] for name in table}
    for matter in matters:
        name = matter[0]
        voices = path_voices(matters, name)
        # An elder book may have forgotten some of those that were heard.
        if name not in most or len(voices) > len(most[name][1]):
            most[name] = (root_of(matters, name), voices)
    return most
