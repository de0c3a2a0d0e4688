"""A desk: a bench that is told rows of words, and answers each with a text."""

from benchdays.bench import Bench, numbers_of
from benchdays.errors import NoRow, NoText
from benchdays.readings import number_read, work_read
from benchdays.texts import shown_plan, shown_wish, shown_work

NAME_SIGNS = "abcdefghijklmnopqrstuvwxyz0123456789"


def is_name(word):
    """Whether a word is a NAME."""
    return len(word) in range(1, 9) and all([sign in NAME_SIGNS for sign in word])


def is_question(word):
    """Whether a word is a QUESTION."""
    return word in ("greatest", "sum")


def is_days(word):
    """Whether a word writes a NUMBER of days that may be asked for."""
    return number_read(word) in range(13)


def is_day_within(day):
    """Whether a due or a from of steps is within the bounds."""
    return day in range(-99, 401)


def is_cost_within(cost):
    """Whether a COST is within the bounds."""
    if cost[0] == "steps":
        rows = cost[1]
        return len(rows) <= 5 and all([is_day_within(begin) and amount <= 99 for begin, amount in rows])
    if cost[0] == "late":
        return is_day_within(cost[1])
    return cost[-1] <= 9 and (cost[0] == "ends" or is_day_within(cost[1]))


def are_work(words):
    """Whether the words write a WORK within the bounds."""
    try:
        length, coming, cost = work_read(0, words)
    except NoText:
        return False
    return length <= 20 and coming <= 60 and is_cost_within(cost)


def are_after(words):
    """Whether the words tell what a work is put behind of; none tell it, too."""
    return words == [] or (words[0] == "after" and len(words) > 1 and are_names(words[1:]))


def are_names(words):
    """Whether each of the words is a NAME."""
    return all([is_name(word) for word in words])


def are_none(words):
    """Whether there are no words."""
    return words == []


def are_name(words):
    """Whether the words are one NAME."""
    return len(words) == 1 and are_names(words)


def are_two_names(words):
    """Whether the words are two NAMES."""
    return len(words) == 2 and are_names(words)


def are_question(words):
    """Whether the words are one QUESTION."""
    return len(words) == 1 and is_question(words[0])


def are_put(words):
    """Whether the words are what is put: a NAME, a WORK, and what it is put behind of."""
    return are_names(words[:1]) and are_work(words[1:4]) and are_after(words[4:])


def are_later(words):
    """Whether the words are a NAME, a NUMBER of days and a QUESTION."""
    return len(words) == 3 and is_name(words[0]) and is_days(words[1]) and is_question(words[2])


def several(words):
    """What is told as several, parted by blanks; - of none."""
    return " ".join(words) if words else "-"


def say_put(bench, words):
    """Puts a work."""
    return str(bench.put(words[0], work_read(0, words[1:4]), tuple(words[5:])))


def say_wish(bench, words):
    """Puts a WISH."""
    return str(bench.wish(words[0], words[1]))


def say_unwish(bench, words):
    """Takes a WISH away."""
    return str(bench.unwish(words[0], words[1]))


def say_take(bench, words):
    """Takes a work."""
    return str(bench.take(words[0]))


def say_back(bench, words):
    """Takes the last deed back."""
    return several(bench.back())


def say_names(bench, words):
    """The NAMES."""
    return several(bench.names())


def say_work(bench, words):
    """The WORK of a NAME."""
    return shown_work(bench.works()[numbers_of(bench.names(), words)[0]])


def say_wishes(bench, words):
    """The WISHES, by names."""
    names = bench.names()
    return several([shown_wish(names[a], names[b]) for a, b in bench.wishes()])


def say_best(bench, words):
    """What the best ORDER costs, and the ORDER."""
    names, cost = bench.best(words[0])
    return several((str(cost),) + names)


def say_plan(bench, words):
    """What the best PLAN costs, and the PLAN."""
    pieces, cost = bench.plan()
    return f"{cost} {shown_plan(pieces)}"


def say_many(bench, words):
    """How many BEST ORDERS there are."""
    return str(bench.many(words[0]))


def say_later(bench, words):
    """The BEST with the due of a work some days later."""
    return several([str(number) for number in bench.later(words[0], number_read(words[1]), words[2])])


# Of each first word of a row: what the words behind it have to be, and what answers it.
ROWS = {
    "put": (are_put, say_put),
    "wish": (are_two_names, say_wish),
    "unwish": (are_two_names, say_unwish),
    "take": (are_name, say_take),
    "back": (are_none, say_back),
    "names": (are_none, say_names),
    "work": (are_name, say_work),
    "wishes": (are_none, say_wishes),
    "best": (are_question, say_best),
    "plan": (are_none, say_plan),
    "many": (are_question, say_many),
    "later": (are_later, say_later),
}


class Desk:
    """A bench, at first without works, that is told rows."""

    def __init__(self):
        self.bench = Bench()

    def say(self, row):
        """Answers a row; refused where it is none that a desk knows."""
        first, *words = row.split(" ")
        if first not in ROWS:
            raise NoRow(row)
        are_right, answer = ROWS[first]
        if not are_right(words):
            raise NoRow(row)
        return answer(self.bench, words)
