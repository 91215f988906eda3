"""Jobs and their orders as a text, there and back."""

from levelbench.errors import NoText
from levelbench.jobs import Jobs
from levelbench.kinds import is_name


def jobs_text(jobs):
    parts = [" ".join(jobs.names())]
    for one, other in jobs.orders():
        parts.append(f"{one} < {other}")
    return "; ".join(parts)


def read_jobs(text):
    if not isinstance(text, str):
        raise NoText("jobs are read from a text alone")
    if text == "":
        return Jobs([], [])
    parts = text.split("; ")
    names = read_names(parts[0], " ")
    orders = [read_order(part) for part in parts[1:]]
    return Jobs(names, orders)


def read_names(part, between):
    words = part.split(between)
    for word in words:
        if not is_name(word):
            raise NoText("a name is one to eight small letters")
    return words


def read_order(part):
    words = read_names(part, " < ")
    if len(words) != 2:
        raise NoText("an order is two names with a < between")
    return (words[0], words[1])
