"""Texts: webs, programs, keepers and courses, written as lines, and read back."""

from sameround.errors import BadText
from sameround.keepers import Course, Keeper
from sameround.kinds import is_small
from sameround.programs import PARTS, Program
from sameround.webs import Web

FIGURES = "0123456789"
MOST_FIGURES = 10

# How many numbers stand behind the first word of a line.
NUMBERS_IN = {"houses": 1, "tie": 2, "leader": 0, "parent": 1, "chosen": 2, "goal": 1}


def expression_text(expression):
    """An expression as its words, one behind the other."""
    words = [expression[0]]
    for part in expression[1:]:
        words.append(expression_text(part) if isinstance(part, tuple) else str(part))
    return " ".join(words)


def lines_text(lines):
    """The text of lines, each closed by a line feed."""
    return "".join([line + "\n" for line in lines])


def web_text(web):
    """The text of a web."""
    return lines_text([f"houses {web.many}"] + [f"tie {low} {high}" for low, high in web.ties])


def program_text(program):
    """The text of a program."""
    starts = ["start " + expression_text(start) for start in program.starts]
    nexts = ["next " + expression_text(expression) for expression in program.nexts]
    to = "to " + expression_text(program.to)
    say = "say " + expression_text(program.say)
    return lines_text(starts + [to, say] + nexts)


def keeper_text(keeper):
    """The text of a keeper, that of its web first."""
    parents = ["leader" if parent is None else f"parent {parent}" for parent in keeper.parents]
    chosen = [f"chosen {low} {high}" for low, high in keeper.chosen]
    return web_text(keeper.web) + lines_text(parents + chosen)


def course_text(course):
    """The text of a course: of its keeper, of its program, and its goal."""
    goal = lines_text([f"goal {course.goal}"])
    return keeper_text(course.keeper) + program_text(course.program) + goal


def read_number(word):
    """The number that a word tells, None for a word that tells none."""
    if not 1 <= len(word) <= MOST_FIGURES or not all([sign in FIGURES for sign in word]):
        return None
    if word[0] == "0" and word != "0":
        return None
    return int(word)


def read_small(word):
    """The small number that a word tells, None for a word that tells none."""
    if not word.startswith("-"):
        number = read_number(word)
    elif word == "-0" or read_number(word[1:]) is None:
        number = None
    else:
        number = -read_number(word[1:])
    return number if is_small(number) else None


def read_leaf(word, behind):
    """The expression "number" or "cell" with the word behind it, None if they are none."""
    if not isinstance(behind, str):
        return None
    number = read_small(behind) if word == "number" else read_number(behind)
    return None if number is None else (word, number)


def read_expression(words):
    """The expression that these words make up, None if they make up none."""
    # What stands behind the word that is looked at, the nearest last: expressions, and words
    # that are none. So it is read from the end, because texts may be nested deeper than calls.
    behind = []
    for word in reversed(words):
        part = word
        if word in ("number", "cell"):
            part = read_leaf(word, behind.pop()) if behind else None
        elif word in PARTS:
            inner = [behind.pop() for _ in range(min(PARTS[word], len(behind)))]
            whole = len(inner) == PARTS[word] and all([isinstance(one, tuple) for one in inner])
            part = (word, *inner) if whole else None
        if part is None:
            return None
        behind.append(part)
    return behind[0] if len(behind) == 1 and isinstance(behind[0], tuple) else None


def values_of(word, line):
    """The tuple of what a line tells behind its first word, None if this is another one or odd."""
    first, *words = line.split(" ")
    if first != word:
        return None
    if word in NUMBERS_IN:
        values = tuple([read_number(other) for other in words])
        return values if len(values) == NUMBERS_IN[word] and None not in values else None
    expression = read_expression(words)
    return None if expression is None else (expression,)


class Lines:
    """A text that is read line by line; at is how many lines were read."""

    def __init__(self, text):
        if not isinstance(text, str):
            raise BadText(0)
        rows = text.split("\n")
        self.rows = rows[:-1]
        self.left = rows[-1]
        self.at = 0

    def read_if(self, word):
        """What the line that is due tells behind this word, None if it has not this form."""
        if self.at == len(self.rows):
            return None
        values = values_of(word, self.rows[self.at])
        if values is not None:
            self.at += 1
        return values

    def read(self, word):
        """What the line that is due tells behind this word, which must be its first one."""
        values = self.read_if(word)
        if values is None:
            raise BadText(self.at + 1)
        return values

    def read_all(self, word):
        """The list of what lines tell behind this word, as long as one is of this form."""
        found = []
        while (values := self.read_if(word)) is not None:
            found.append(values)
        return found

    def close(self):
        """Refuse what stands behind the last line that is due."""
        if self.at < len(self.rows) or self.left != "":
            raise BadText(self.at + 1)


def read_ties(lines):
    """The pair of how many houses lines tell, and of the tuple of their ties."""
    many = lines.read("houses")[0]
    return (many, tuple(lines.read_all("tie")))


def read_parent(lines):
    """The parent that a line tells, None for a leader."""
    if lines.read_if("leader") is not None:
        return None
    return lines.read("parent")[0]


def read_clusters(lines, many):
    """The pair of the parents of so many houses, and of the chosen ties."""
    parents = []
    while len(parents) < many:
        parents.append(read_parent(lines))
    return (tuple(parents), tuple(lines.read_all("chosen")))


def read_parts(lines):
    """The tuple of starts, to, say and nexts that lines tell."""
    starts = [lines.read("start")] + lines.read_all("start")
    to = lines.read("to")[0]
    say = lines.read("say")[0]
    nexts = [lines.read("next")] + lines.read_all("next")
    return (tuple([values[0] for values in starts]), to, say, tuple([values[0] for values in nexts]))


def read_web(text):
    """The web that a text tells."""
    lines = Lines(text)
    many, ties = read_ties(lines)
    lines.close()
    return Web(many, ties)


def read_program(text):
    """The program that a text tells."""
    lines = Lines(text)
    parts = read_parts(lines)
    lines.close()
    return Program(*parts)


def read_keeper(text):
    """The keeper that a text tells."""
    lines = Lines(text)
    many, ties = read_ties(lines)
    parents, chosen = read_clusters(lines, many)
    lines.close()
    return Keeper(Web(many, ties), parents, chosen)


def read_course(text):
    """The course that a text tells."""
    lines = Lines(text)
    many, ties = read_ties(lines)
    parents, chosen = read_clusters(lines, many)
    parts = read_parts(lines)
    goal = lines.read("goal")[0]
    lines.close()
    keeper = Keeper(Web(many, ties), parents, chosen)
    return Course(Program(*parts), keeper, goal)
