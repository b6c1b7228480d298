"""Desks: the whole program, worked by lines."""

from sameround.errors import NoDeed, NoHouse, NoLine, NoName
from sameround.films import drawn
from sameround.glass import all_words, beats, broken, run_out
from sameround.keepers import Course, alpha, beta, clusters, depth, gamma, words_a_round
from sameround.kinds import is_number_below
from sameround.lockstep import lockstep
from sameround.nets import Net, round_trip, settle
from sameround.texts import course_text, read_number, read_program, read_web
from sameround.webs import far, width

SORTS = ("WEB", "PROGRAM", "KEEPER", "COURSE", "NET")
LETTERS = "abcdefghijklmnopqrstuvwxyz"
MOST_LETTERS = 8


class Desk:
    """Webs, programs, keepers, courses and nets, kept under names."""

    def __init__(self):
        self._things = {sort: {} for sort in SORTS}

    def tell(self, line):
        """Do what a line asks for; tell its answer."""
        form, values = read_line(line)
        things = self._looked_up(form, values)
        if form in MAKERS:
            make = MAKERS[form]
            name = things[0]
            parts = things[1:]
            self._things[form.split(" ")[0].upper()][name] = make(*parts)
            return "ok"
        answer = TELLERS[form]
        return answer(*things)

    def _looked_up(self, form, values):
        """The list of the values of a line, with what is kept in the place of its name."""
        things = []
        for kind, value in zip(kinds_of(form), values):
            if kind in SORTS:
                if value not in self._things[kind]:
                    raise NoName(value)
                things.append(self._things[kind][value])
            else:
                things.append(value)
        return things


def make_web(text):
    """The web of a text of one line."""
    return read_web(text.replace("|", "\n"))


def make_program(text):
    """The program of a text of one line."""
    return read_program(text.replace("|", "\n"))


def make_alpha(web):
    """The keeper alpha of a web."""
    return alpha(web)


def make_beta(web):
    """The keeper beta of a web."""
    return beta(web)


def make_gamma(web, k):
    """A keeper gamma of a web."""
    return gamma(web, k)


def make_course(program, keeper, goal):
    """The course of a program and a keeper up to a round."""
    return Course(program, keeper, goal)


def make_net(course):
    """A net of a course."""
    return Net(course)


def tell_width(web):
    """How wide a web is."""
    return str(width(web))


def tell_far(web, one, other):
    """How far two houses are from each other."""
    return str(far(web, one, other))


def tell_depth(keeper):
    """How deep a keeper is."""
    return str(depth(keeper))


def tell_words(keeper):
    """How many words a round of a keeper takes."""
    return str(words_a_round(keeper))


def tell_parts(keeper):
    """The clusters of a keeper."""
    return in_a_row([",".join([str(house) for house in lot]) for lot in clusters(keeper)])


def tell_source(course):
    """The text of a course."""
    return course_text(course).replace("\n", "|")


def tell_lock(course, at, house):
    """The cells of a house in a round of lockstep."""
    web = course.keeper.web
    rows = lockstep(web, course.program, at)
    if not is_number_below(web.many, house):
        raise NoHouse()
    return in_a_row(rows[at][house])


def tell_all(course):
    """How many words each run of a course takes."""
    return str(all_words(course))


def tell_beats(course):
    """How many beats a course takes."""
    return str(beats(course))


def tell_out(course, choices):
    """How many words are taken in a run by these choices."""
    return str(run_out(course, choices)[1])


def done_or_not(net, thing):
    """Do a deed of a net; tell whether it can be done."""
    try:
        net.deed(thing)
    except NoDeed:
        return "no"
    return "ok"


def tell_start(net, house):
    """Start a house."""
    return done_or_not(net, ("start", house))


def tell_post(net, one, other):
    """Put a letter into the bag."""
    return done_or_not(net, ("post", one, other))


def tell_bring(net, at):
    """Let a letter of the bag be heard."""
    return done_or_not(net, ("bring", at))


def tell_lose(net, at):
    """Lose a letter of the bag."""
    return done_or_not(net, ("lose", at))


def tell_twice(net, at):
    """Double a letter of the bag."""
    return done_or_not(net, ("double", at))


def tell_fall(net, house, left):
    """Cut the disk of a house, but for so many bytes of all that waits."""
    disk = net.disk(house)
    kept = []
    for row in disk.blocks()[disk.synced():]:
        kept.append(min(left, len(row)))
        left -= kept[-1]
    return done_or_not(net, ("cut", house, tuple(kept)))


def tell_bag(net):
    """How many letters are in the bag."""
    return str(len(net.bag()))


def tell_trip(net):
    """Do a round trip."""
    round_trip(net)
    return "ok"


def tell_settle(net, most):
    """Do round trips until all is over."""
    return str(settle(net, most))


def tell_rounds(net):
    """The rounds of all houses."""
    states, _ = net.glass()
    return in_a_row(["-" if state[0] == "asleep" else state[1] for state in states])


def tell_cells(net, house):
    """The cells of a house."""
    return in_a_row(net.house(house).state()[2])


def tell_sums(net):
    """The sums that do not hold."""
    words = broken(net._course, net.glass())
    return in_a_row(words) if words else "none"


def tell_view(net):
    """The picture of what stands now."""
    return drawn(net._course, net.glass()).replace("\n", "|")


# Each form of a line, words with blanks between; those in capitals, and "..", stand for others.
MAKERS = {
    "web NAME TEXT": make_web,
    "program NAME TEXT": make_program,
    "keeper NAME WEB alpha": make_alpha,
    "keeper NAME WEB beta": make_beta,
    "keeper NAME WEB gamma K": make_gamma,
    "course NAME PROGRAM KEEPER K": make_course,
    "net NAME COURSE": make_net,
}
TELLERS = {
    "width WEB": tell_width,
    "far WEB K K": tell_far,
    "depth KEEPER": tell_depth,
    "words KEEPER": tell_words,
    "parts KEEPER": tell_parts,
    "source COURSE": tell_source,
    "lock COURSE K K": tell_lock,
    "all COURSE": tell_all,
    "beats COURSE": tell_beats,
    "out COURSE ..": tell_out,
    "start NET K": tell_start,
    "post NET K K": tell_post,
    "bring NET K": tell_bring,
    "lose NET K": tell_lose,
    "twice NET K": tell_twice,
    "fall NET K K": tell_fall,
    "bag NET": tell_bag,
    "trip NET": tell_trip,
    "settle NET K": tell_settle,
    "rounds NET": tell_rounds,
    "cells NET K": tell_cells,
    "sums NET": tell_sums,
    "view NET": tell_view,
}


def in_a_row(things):
    """Words and numbers with blanks between."""
    return " ".join([str(thing) for thing in things])


def kinds_of(form):
    """The list of the words of a form that stand for others."""
    return [word for word in form.split(" ") if word.isupper() or word == ".."]


def is_name(word):
    """Whether a word is a name."""
    return 1 <= len(word) <= MOST_LETTERS and all([sign in LETTERS for sign in word])


def value_by(kind, word):
    """What a word tells where a form has a word of this kind, None for nothing."""
    if kind == "K":
        return read_number(word)
    if kind in SORTS or kind == "NAME":
        return word if is_name(word) else None
    if kind == "TEXT":
        return word if word != "" else None
    # Any other word of a form stands for itself.
    return word if word == kind else None


def values_by(form, line):
    """The list of what a line tells where a form has words for others, None if it has not the form."""
    kinds = form.split(" ")
    words = line.split(" ", len(kinds) - 1) if kinds[-1] == "TEXT" else line.split(" ")
    behind = []
    if kinds[-1] == "..":
        kinds = kinds[:-1]
        behind = [[read_number(word) for word in words[len(kinds):]]]
        words = words[:len(kinds)]
    if len(words) != len(kinds):
        return None
    values = [value_by(kind, word) for kind, word in zip(kinds, words)]
    if None in values or behind and None in behind[0]:
        return None
    return [value for kind, value in zip(kinds, values) if kind.isupper()] + behind


def read_line(line):
    """The pair of the form that a line has, and of the values in it."""
    if not isinstance(line, str) or "\n" in line:
        raise NoLine()
    for form in list(MAKERS) + list(TELLERS):
        values = values_by(form, line)
        if values is not None:
            return (form, values)
    raise NoLine()
