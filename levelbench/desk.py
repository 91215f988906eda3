"""A desk that is told rows of text and answers each with a text."""

from levelbench.ends import met
from levelbench.errors import NoLine
from levelbench.few import counted, fewest
from levelbench.jobs import Jobs, check_job
from levelbench.jobtexts import read_jobs
from levelbench.kinds import check_benches, is_name
from levelbench.lateness import least_late
from levelbench.plans import fault
from levelbench.plantexts import plan_text, read_plan
from levelbench.twos import two_plan
from levelbench.woods import wood_plan

MOST_FIGURES = 60
OK = "ok"


def read_number(word):
    figures = word[1:] if word.startswith("-") else word
    if not 1 <= len(figures) <= MOST_FIGURES or not all(["0" <= sign <= "9" for sign in figures]):
        raise NoLine("a number is written in one to sixty figures")
    number = int(word)
    if str(number) != word:
        raise NoLine("a number has no noughts ahead, and 0 no sign")
    return number


def word_and_plan(word, plan):
    if not plan:
        return word
    return word + " " + plan_text(plan)


def paper_text(paper):
    if paper[0] == "blocks":
        return word_and_plan(paper[0], paper[1])
    return parts_text(paper)


def met_text(answer):
    if answer[0] == "plan":
        return word_and_plan(answer[0], answer[1])
    return parts_text([answer[0], answer[1]] + answer[2])


def late_text(answer):
    return "; ".join([str(answer[0]), plan_text(answer[1]), str(answer[2]), parts_text(answer[3])])


def fault_text(found):
    if found is None:
        return "right"
    return parts_text(found)


def parts_text(parts):
    return " ".join([str(part) for part in parts])


class Desk:
    def __init__(self):
        self.jobs = Jobs([], [])
        self.benches = 2
        self.ends = {}

    def say(self, row):
        if not isinstance(row, str):
            raise NoLine("a row is a text")
        parts = row.partition(" ")
        if parts[1] == "":
            return self.answer_word(row)
        return self.answer_more(parts[0], parts[2])

    def answer_word(self, word):
        if word == "plan":
            return plan_text(self.plan_and_paper()[0])
        if word == "paper":
            return paper_text(self.plan_and_paper()[1])
        if word == "met":
            return met_text(met(self.jobs, self.benches, self.ends))
        if word == "late":
            return late_text(least_late(self.jobs, self.benches, self.ends))
        if word == "fewest":
            return plan_text(fewest(self.jobs, self.benches))
        raise NoLine("this word is no row by itself")

    def answer_more(self, word, rest):
        if word == "jobs":
            return self.take_jobs(rest)
        if word == "benches":
            return self.take_benches(read_number(rest))
        if word == "end":
            return self.take_end(rest.split(" "))
        if word == "count":
            return str(counted(self.jobs, self.benches, read_number(rest)))
        if word == "look":
            return fault_text(fault(self.jobs, self.benches, read_plan(rest)))
        raise NoLine("no row begins with this word and a blank")

    def plan_and_paper(self):
        if self.benches != 2:
            return wood_plan(self.jobs, self.benches)
        told = two_plan(self.jobs)
        return (told[0], ("blocks", told[1]))

    def take_jobs(self, text):
        self.jobs = read_jobs(text)
        self.ends = {}
        return OK

    def take_benches(self, number):
        check_benches(number)
        self.benches = number
        return OK

    def take_end(self, words):
        if len(words) != 2 or not is_name(words[0]):
            raise NoLine("an end is told with the job's name and a number")
        number = read_number(words[1])
        check_job(self.jobs.names(), words[0])
        self.ends[words[0]] = number
        return OK
