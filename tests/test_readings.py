"""Point 83: WORKS, WISHES and PLANS read from texts."""

import copy
import re
import unittest

from benchdays.errors import NoText
from benchdays.readings import read_plan, read_works
from benchdays.texts import shown_plan, shown_works
from tests.helper import Case, Drawn, goes_round

ANY = "(0|-?[1-9][0-9]{0,11})"
FROM_0 = "(0|[1-9][0-9]{0,11})"
FROM_1 = "([1-9][0-9]{0,11})"
BAD_NUMBERS = ("", "-", "-0", "00", "01", "-01", "+1", "1.0", "1e3", "1_0", " 1", "x", "--1", "1-", "1000000000000",
               "-1000000000000", "0x1", "1,", "one", "None", "True", "9" * 4000)


def numbers_in(text):
    return [int(number) for number in re.findall("-?[0-9]+", text)]


def is_cost_told(word):
    """Whether a word writes a COST, as the document tells it."""
    if re.fullmatch(f"late:{ANY}|(tardy|miss):{ANY}:{FROM_0}|ends:{FROM_0}", word):
        return True
    if not re.fullmatch(f"steps:{ANY}={FROM_0}(,{ANY}={FROM_0})*", word):
        return False
    numbers = numbers_in(word.replace("=", " "))
    begins, amounts = numbers[::2], numbers[1::2]
    return begins == sorted(set(begins)) and amounts == sorted(amounts)


def can_stand_in_work(ahead, word):
    if len(ahead) < 2:
        return bool(re.fullmatch((FROM_1, FROM_0)[len(ahead)], word))
    return len(ahead) == 2 and is_cost_told(word)


def can_stand_in_wishes(many, ahead, word):
    """Whether a word can stand behind wishes and some pairs."""
    if not re.fullmatch(f"{FROM_0}<{FROM_0}", word):
        return False
    pairs = [tuple(numbers_in(each)) for each in ahead[1:] + [word]]
    a, b = pairs[-1]
    if a == b or max(a, b) >= many:
        return False
    return (len(pairs) == 1 or pairs[-2] < pairs[-1]) and not goes_round(many, pairs)


def works_fault_told(lines):
    """The place (row, word) of the first fault of a list of texts, as the document tells it; None where there is none."""
    wished = False
    for row, line in enumerate(lines):
        words = line.split(" ")
        if wished:
            return (row, 0)
        wished = row > 0 and words[0] == "wishes"
        for k in range(1 if wished else 0, len(words)):
            if wished:
                right = can_stand_in_wishes(row, words[:k], words[k])
            else:
                right = can_stand_in_work(words[:k], words[k])
            if not right:
                return (row, k)
        if not wished and len(words) < 3:
            return (row, len(words))
    return None if wished else (len(lines), 0)


def plan_fault_told(text):
    """The first word of a text that can't stand in a PLAN, as the document tells it; None where each can."""
    end = 0
    for k, word in enumerate(text.split(" ")):
        if not re.fullmatch(f"{FROM_0}:{FROM_0}:{FROM_0}", word):
            return k
        work, begin, stop = numbers_in(word)
        if not end <= begin < stop:
            return k
        end = stop
    return None


def changed_text(drawn, text):
    """A text changed in one place."""
    k = drawn.up_to(len(text))
    turn = drawn.up_to(5)
    put = drawn.source.choice(list(" :=<,-0123459") + ["  ", "wishes", "late:1", "0<1", "1:0:2", "-0", "99999999999"])
    if turn == 0:
        return text[:k] + text[k + 1:]
    if turn == 1:
        return text[:k] + put + text[k + 1:]
    if turn == 2:
        return text[:k]
    words = text.split(" ")
    j = drawn.up_to(len(words) - 1)
    if turn == 3:
        words[j] = put
    elif turn == 4:
        words.insert(j, drawn.source.choice(words))
    else:
        del words[j]
    return " ".join(words)


def changed_lines(drawn, lines):
    """Some texts changed in one place."""
    lines = list(lines)
    k = drawn.up_to(len(lines) - 1)
    turn = drawn.up_to(7)
    if turn == 0:
        del lines[k]
    elif turn == 1:
        lines.insert(k, drawn.source.choice(lines))
    elif turn == 2:
        lines.append(drawn.source.choice(lines + ["", "wishes"]))
    else:
        lines[k] = changed_text(drawn, lines[k])
    return lines


class ReadWorks(Case):

    def no(self, row, word, lines):
        self.refused(NoText, {"row": row, "word": word}, read_works, lines)

    def looked_at(self, lines):
        """Told or refused is what the document tells; whether it is read."""
        kept = copy.deepcopy(lines)
        fault = works_fault_told(lines)
        if fault is None:
            works, wishes = read_works(lines)
            self.same(shown_works(works, wishes), lines)
        else:
            self.no(fault[0], fault[1], lines)
        self.same(lines, kept)
        return fault is None

    def test_told(self):
        self.same(read_works(["2 0 late:-3", "wishes"]), (((2, 0, ("late", -3)),), ()))
        lines = ["3 1 steps:-1=0,4=7", "1 0 tardy:5:2", "20 60 miss:5:9", "1 7 ends:4", "wishes 0<2 1<2 3<0"]
        works = ((3, 1, ("steps", ((-1, 0), (4, 7)))), (1, 0, ("tardy", 5, 2)), (20, 60, ("miss", 5, 9)), (1, 7, ("ends", 4)))
        self.same(read_works(lines), (works, ((0, 2), (1, 2), (3, 0))))

    def test_rows_that_lack(self):
        self.no(0, 0, [])
        self.no(1, 0, ["2 0 late:5"])
        self.no(2, 0, ["2 0 late:5", "2 0 late:5"])
        self.no(20, 0, ["2 0 late:5"] * 20)
        self.same(len(read_works(["2 0 late:5"] * 19 + ["wishes 0<18"])[0]), 19)

    def test_words_that_lack(self):
        self.no(0, 1, ["2", "wishes"])
        self.no(0, 2, ["2 0", "wishes"])
        self.no(1, 2, ["2 0 late:5", "2 0", "wishes"])
        self.no(1, 1, ["2 0 late:5", "2", ""])

    def test_words_that_are_one_too_many(self):
        self.no(0, 3, ["2 0 late:5 1", "wishes"])
        self.no(0, 3, ["2 0 late:5 ", "wishes"])
        self.no(1, 3, ["2 0 late:5", "2 0 late:5 wishes"])
        self.no(0, 0, [" 2 0 late:5", "wishes"])
        self.no(0, 1, ["2  0 late:5", "wishes"])

    def test_texts_without_signs(self):
        self.no(0, 0, [""])
        self.no(0, 0, ["", "wishes"])
        self.no(1, 0, ["2 0 late:5", ""])
        self.no(2, 0, ["2 0 late:5", "wishes", ""])
        self.no(1, 1, ["2 0 late:5", "wishes "])

    def test_wishes_first_or_twice(self):
        self.no(0, 0, ["wishes"])
        self.no(0, 0, ["wishes", "2 0 late:5"])
        self.no(2, 0, ["2 0 late:5", "wishes", "wishes"])
        self.no(2, 0, ["2 0 late:5", "wishes", "2 0 late:5", "wishes"])
        self.no(1, 0, ["2 0 late:5", "wishes:"])
        self.no(1, 0, ["2 0 late:5", "Wishes"])
        self.no(1, 0, ["2 0 late:5", "wish"])

    def test_bad_numbers(self):
        for bad in BAD_NUMBERS:
            for text, word in ((f"{bad} 0 late:5", 0), (f"2 {bad} late:5", 1), (f"2 0 late:{bad}", 2), (f"2 0 tardy:{bad}:2", 2),
                               (f"2 0 miss:1:{bad}", 2), (f"2 0 ends:{bad}", 2), (f"2 0 steps:{bad}=1", 2),
                               (f"2 0 steps:-1=0,4={bad}", 2)):
                self.looked_at([text, "wishes"])
                if " " not in bad:
                    self.no(0, word, [text, "wishes"])
            if " " not in bad:
                self.no(1, 1, ["2 0 late:5", f"wishes {bad}<0"])
                self.no(2, 2, ["2 0 late:5", "2 0 late:5", f"wishes 0<1 1<{bad}"])

    def test_numbers_below_what_can_stand(self):
        for bad, word in (("0 0 late:5", 0), ("-1 0 late:5", 0), ("1 -1 late:5", 1), ("1 0 tardy:5:-1", 2), ("1 0 miss:5:-1", 2),
                          ("1 0 ends:-1", 2), ("1 0 steps:0=-1", 2), ("1 0 steps:0=1,0=2", 2), ("1 0 steps:1=1,0=2", 2),
                          ("1 0 steps:0=2,1=1", 2)):
            self.no(0, word, [bad, "wishes"])
        self.same(read_works(["1 0 steps:0=2,1=2", "wishes"])[0][0][2], ("steps", ((0, 2), (1, 2))))

    def test_bad_costs(self):
        for bad in ("late", "late:", "late:5:1", ":5", "5", "LATE:5", "late=5", "late:5:", "late: 5", "tardy:5", "tardy:5:2:1",
                    "tardy:5,2", "miss:5", "ends", "ends:1:2", "steps", "steps:", "steps:5", "steps:5=", "steps:=5", "steps:1=2,",
                    "steps:,1=2", "steps:1=2=3", "steps:1=2:3=4", "steps:1=2,,3=4", "steps:1:2", "ends:1=2", "steps:()", "x:5",
                    "late:late", "wishes"):
            self.looked_at([f"1 0 {bad}", "wishes"])
            self.no(0, 2, [f"1 0 {bad}", "wishes"])

    def test_wishes(self):
        works = ["1 0 late:5"] * 4
        for text, word in (("0<0", 1), ("0<4", 1), ("4<0", 1), ("0<1 0<1", 2), ("0<2 0<1", 2), ("1<0 0<1", 2), ("0<1 1<0", 2),
                           ("0<1 1<2 2<0", 3), ("0<1 1<2 2<3 3<0", 4), ("0", 1), ("0<", 1), ("<0", 1), ("0<1<2", 1), ("0>1", 1),
                           ("", 1), ("0<1  1<2", 2), ("0<1 ", 2), ("0,1", 1), ("-1<0", 1), ("wishes", 1), ("0<1 x 0<9", 2)):
            self.looked_at(works + [f"wishes {text}"])
            self.no(4, word, works + [f"wishes {text}"])
        self.same(read_works(works + ["wishes 0<1 0<2 1<2 3<0"])[1], ((0, 1), (0, 2), (1, 2), (3, 0)))

    def test_the_first_fault_goes(self):
        self.no(0, 0, ["0 -1 x", "", ""])
        self.no(1, 2, ["1 0 late:5", "1 0 x y", "x"])
        self.no(1, 1, ["1 0 late:5", "1 x", "wishes 9<9"])
        self.no(2, 1, ["1 0 late:5", "1 0 late:5", "wishes 0<2 1<1", "x"])

    def test_changed_texts(self):
        read = 0
        for seed in range(6000):
            drawn = Drawn(seed)
            many = drawn.up_to(5) + 1
            lines = shown_works(drawn.works(many), drawn.wishes(many, 6))
            for turn in range(drawn.up_to(2)):
                if lines:
                    lines = changed_lines(drawn, lines)
            read += self.looked_at(lines)
        self.assertTrue(2000 < read < 4500, read)

    def test_nineteen_works_and_all_their_wishes(self):
        chain = " ".join(f"{a}<{b}" for a in range(19) for b in range(a + 1, 19))
        lines = ["1 0 late:5"] * 19 + ["wishes " + chain]
        self.assertTrue(self.looked_at(lines))
        self.looked_at(lines[:19] + [lines[19] + " 18<0"])
        self.no(19, 172, lines[:19] + [lines[19] + " 18<0"])

    def test_any_texts(self):
        signs = "".join(sign for sign in map(chr, range(32, 127)) if sign != chr(37))
        for lines in ([signs], ["1 0 late:5", signs], ["x" * 4000], ["1 0 late:5", "wishes " + " " * 3993], [" " * 4000],
                      [""] * 20, ["wishes"] * 20, ["1 0 late:5"] * 18 + ["wishes", "wishes"]):
            self.looked_at(lines)
        for seed in range(300):
            drawn = Drawn(seed)
            self.looked_at(["".join(drawn.source.choice("0123456789 :<=,-lates") for k in range(drawn.up_to(20)))
                            for line in range(drawn.up_to(3))])


class ReadPlan(Case):

    def no(self, word, text):
        self.refused(NoText, {"row": 0, "word": word}, read_plan, text)

    def looked_at(self, text):
        """Told or refused is what the document tells; whether it is read."""
        fault = plan_fault_told(text)
        if fault is None:
            self.same(shown_plan(read_plan(text)), text)
        else:
            self.no(fault, text)
        return fault is None

    def test_told(self):
        self.same(read_plan("0:0:3"), ((0, 0, 3),))
        self.same(read_plan("2:0:3 0:3:5 2:7:8"), ((2, 0, 3), (0, 3, 5), (2, 7, 8)))
        self.same(read_plan("99:5:6 99:6:7"), ((99, 5, 6), (99, 6, 7)))

    def test_refused(self):
        for word, text in ((0, ""), (0, " "), (0, "0"), (0, "0:0"), (0, "0:0:3:4"), (0, "0:3:3"), (0, "0:4:3"), (0, "-1:0:3"),
                           (0, "0:-1:3"), (1, "0:0:3 1:2:5"), (1, "0:0:3 "), (1, "0:0:3  1:3:5"), (2, "0:0:3 1:3:5 1:4:9"),
                           (1, "0:0:3 wishes"), (0, "a:0:3"), (0, "0:0:03"), (0, " 0:0:3"), (1, "0:0:3 0:3:x 0")):
            self.looked_at(text)
            self.no(word, text)

    def test_bad_numbers(self):
        for bad in BAD_NUMBERS:
            for text in (f"{bad}:0:3", f"0:{bad}:3", f"0:0:{bad}"):
                self.assertFalse(self.looked_at(text))

    def test_changed_texts(self):
        read = 0
        for seed in range(3000):
            drawn = Drawn(seed)
            moments = sorted(drawn.source.sample(range(30), 2 * (drawn.up_to(4) + 1)))
            text = shown_plan(tuple((drawn.up_to(3), begin, end) for begin, end in zip(moments[::2], moments[1::2])))
            for turn in range(drawn.up_to(2)):
                text = changed_text(drawn, text)
            read += self.looked_at(text)
        self.assertTrue(900 < read < 2400, read)

    def test_any_text(self):
        for text in ("x" * 4000, " " * 4000, "0:0:1" + " 0:0:1" * 600, ":" * 4000, "0:0:1 " * 600):
            self.looked_at(text)
        self.same(len(read_plan(" ".join(f"7:{k}:{k + 1}" for k in range(400)))), 400)


if __name__ == "__main__":
    unittest.main()
