"""A second account of rows, posts and journals, written apart from the package, for tests to compare."""

from tests import model

SIGNS = [chr(number) for number in range(32, 127) if number != 37]


def whole(number):
    """The figures of a number to the base 128, the lowest first, all but the last one marked."""
    figures = []
    while True:
        number, figure = divmod(number, 128)
        figures.append(figure)
        if not number:
            return [figure + 128 for figure in figures[:-1]] + figures[-1:]


def row_of(parcel):
    """The list of the bytes of a parcel."""
    if isinstance(parcel, bool) or parcel is None:
        return [{None: 0, False: 1, True: 2}[parcel]]
    if isinstance(parcel, int):
        return [3, *whole(parcel)] if parcel >= 0 else [4, *whole(-parcel - 1)]
    if isinstance(parcel, str):
        return [5, *whole(len(parcel)), *parcel.encode("ascii")]
    row = [6, *whole(len(parcel))]
    for part in parcel:
        row += row_of(part)
    return row


class Bad(Exception):
    pass


def read_row(row):
    """The pair of the parcel of a row and None, or of None and the place of its first fault.

    It is read by a stack of open tuples, without going deeper into calls.
    """
    at, open_ones, done = 0, [], []

    def figures(at):
        end = at
        while end < len(row) and row[end] > 127:
            end += 1
        if end == len(row) or (end > at and row[end] == 0):
            raise Bad(at)
        return sum((byte % 128) << (7 * k) for k, byte in enumerate(row[at:end + 1])), end + 1

    try:
        while not done or open_ones:
            if at == len(row):
                raise Bad(at)
            sort, start = row[at], at
            at += 1
            if sort > 6 or (sort == 6 and len(open_ones) == 20):
                raise Bad(start)
            if sort < 3:
                item = [None, False, True][sort]
            elif sort == 3:
                item, at = figures(at)
            elif sort == 4:
                item, at = figures(at)
                item = ~item
            elif sort == 5:
                start = at
                many, at = figures(at)
                if many == 0 or many > 20:
                    raise Bad(start)
                item = ""
                for k in range(many):
                    if at + k == len(row):
                        raise Bad(len(row))
                    if chr(row[at + k]) not in SIGNS:
                        raise Bad(at + k)
                    item += chr(row[at + k])
                at += many
            else:
                many, at = figures(at)
                open_ones.append([many])
                item = Bad
            if item is not Bad:
                (open_ones[-1] if open_ones else done).append(item)
            while open_ones and len(open_ones[-1]) == open_ones[-1][0] + 1:
                closed = tuple(open_ones.pop()[1:])
                (open_ones[-1] if open_ones else done).append(closed)
        if at < len(row):
            raise Bad(at)
        return done[0], None
    except Bad as wrong:
        return None, wrong.args[0]


def mark(row):
    number = 1
    for byte in row:
        number = (1000003 * number + byte + 1) % 2305843009213693951
    return number


def sealed(parcel):
    row = row_of(parcel)
    return tuple(row) + tuple((mark(row) % 2 ** 32).to_bytes(4, "little"))


def unsealed(row):
    """The list of the parcel of which a row is sealed, of none without."""
    if len(row) < 4 or list(row[-4:]) != list((mark(row[:-4]) % 2 ** 32).to_bytes(4, "little")):
        return []
    parcel, place = read_row(row[:-4])
    return [parcel] if place is None else []


def strict(thing):
    """A string by which flags and numbers are told apart."""
    return repr(thing)


def is_row(thing):
    """Whether a thing is a tuple of bytes."""
    return isinstance(thing, tuple) and all(one.__class__ is int and one in range(256) for one in thing)


class Post:
    """A live house, by the numbers of words that were put, known, and taken."""

    def __init__(self, course, me, past=None):
        self.course, self.me = course, me
        self.beside = model.beside(course.keeper.web, me)
        if past is None:
            state = ("asleep", 0, model.starts(course.keeper.web, course.program, me), 0, (), (), (), ())
            past = (state, ((0, ()),) * len(self.beside), ((0, ()),) * len(self.beside))
        self.state = past[0]
        self.known = {other: past[1][k][0] for k, other in enumerate(self.beside)}
        self.put = {other: [None] * past[1][k][0] + list(past[1][k][1]) for k, other in enumerate(self.beside)}
        self.taken = {other: past[2][k][0] for k, other in enumerate(self.beside)}
        self.held = {other: dict(past[2][k][1]) for k, other in enumerate(self.beside)}

    def past(self):
        outs = tuple((self.known[other], tuple(self.put[other][self.known[other]:])) for other in self.beside)
        ins = tuple((self.taken[other], tuple(sorted(self.held[other].items()))) for other in self.beside)
        return self.state, outs, ins

    def start(self):
        """Whether it can start; then it has."""
        if self.state[0] != "asleep":
            return False
        self.state, out = model.start(self.course, self.me, self.state)
        for other, word in out:
            self.put[other].append(word)
        return True

    def letter(self, to):
        items = [(k, word) for k, word in enumerate(self.put[to]) if k >= self.known[to]]
        return ("letter", self.me, to, self.taken[to], tuple(items[:20]))

    def is_letter(self, thing):
        if strict(thing)[:1] != "(" or len(thing) != 5:
            return False
        word, sender, to, taken, items = thing
        if word != "letter" or strict(sender) not in map(str, self.beside) or strict(to) != str(self.me):
            return False
        if not strict(taken).isdigit() or taken > len(self.put[sender]):
            return False
        if not isinstance(items, tuple) or len(items) > 20:
            return False
        return all(isinstance(item, tuple) and len(item) == 2 and strict(item[0]).isdigit()
                   and item[0] < 2 ** 32 and is_word(item[1]) for item in items)

    def hear(self, row):
        told = unsealed(row)
        if not told or not self.is_letter(told[0]):
            return "none"
        _, sender, _, taken, items = told[0]
        other = Post(self.course, self.me, self.past())
        other.known[sender] = max(taken, other.known[sender])
        for number, word in items:
            if other.taken[sender] <= number < other.taken[sender] + 1000:
                other.held[sender].setdefault(number, word)
            while other.taken[sender] in other.held[sender]:
                first = other.held[sender].pop(other.taken[sender])
                other.taken[sender] += 1
                told = model.hear(self.course, self.me, other.state, sender, first)
                if told is None:
                    return "none"
                other.state = told[0]
                for to, new in told[1]:
                    other.put[to].append(new)
        changed = other.past() != self.past()
        self.__dict__.update(other.__dict__)
        return "new" if changed else "old"

    def deed(self, thing):
        """What a deed of the right form returns; False for a start that can't be done."""
        if thing[0] == "start":
            return None if self.start() else False
        return self.hear(thing[1])


def is_word(thing):
    """Whether a parcel is a word."""
    if not isinstance(thing, tuple) or len(thing) < 2 or not strict(thing[1]).isdigit() or thing[1] > 999:
        return False
    if thing[0] == "said":
        return len(thing) == 3 and strict(thing[2]).lstrip("-").isdigit() and -2 ** 31 <= thing[2] < 2 ** 31
    return thing[0] in ("got", "up", "down", "next", "done", "go") and len(thing) == 2


def text_of(expression):
    """An expression as its words."""
    return " ".join(text_of(part) if isinstance(part, tuple) else str(part) for part in expression)


def course_text(course):
    keeper = course.keeper
    lines = [f"houses {keeper.web.many}"]
    lines += [f"tie {a} {b}" for a, b in keeper.web.ties]
    lines += ["leader" if parent is None else f"parent {parent}" for parent in keeper.parents]
    lines += [f"chosen {a} {b}" for a, b in keeper.chosen]
    lines += ["start " + text_of(one) for one in course.program.starts]
    lines += ["to " + text_of(course.program.to), "say " + text_of(course.program.say)]
    lines += ["next " + text_of(one) for one in course.program.nexts]
    return "\n".join([*lines, f"goal {course.goal}", ""])


def first_block(course, me):
    """The block with which the disk of a house begins."""
    return sealed(("house", mark(course_text(course).encode("ascii")), me))


def behind_blocks(course, me, blocks):
    """The pair of the Post that blocks tell, the first one being right, and of how many are right."""
    post, many = Post(course, me), 1
    for block in blocks[1:]:
        told = unsealed(block)
        if not told or not isinstance(told[0], tuple) or len(told[0]) != 2 or told[0][0] not in ("past", "deed"):
            break
        if told[0][0] == "past":
            post = Post(course, me, told[0][1])
        elif post.deed(told[0][1]) in (False, "none", "old"):
            break
        many += 1
    return post, many


class Refused(Exception):
    pass


def number_below(limit, thing):
    return thing.__class__ is int and 0 <= thing < limit


class Net:
    """Houses, the blocks of their disks, and a bag, by lists that are changed in place."""

    def __init__(self, course):
        self.course, self.many = course, course.keeper.web.many
        self.posts = [Post(course, house) for house in range(self.many)]
        self.blocks = [[first_block(course, house)] for house in range(self.many)]
        self.synced = [1] * self.many
        self.bag = []

    def note(self, house, thing, told):
        if told in (None, "new"):
            self.blocks[house].append(sealed(("deed", thing)))
        return told

    def letter(self, house, to):
        self.synced[house] = len(self.blocks[house])
        return sealed(self.posts[house].letter(to))

    def start(self, house):
        return self.note(house, ("start",), self.posts[house].deed(("start",)))

    def hear(self, house, row):
        return self.note(house, ("hear", row), self.posts[house].hear(row))

    def deed(self, thing):
        """What a deed returns; Refused for one that can't be done."""
        try:
            word, *parts = thing
            action = {"start": self.do_start, "keep": self.do_keep, "post": self.do_post, "bring": self.do_bring,
                      "lose": self.do_lose, "double": self.do_double, "spoil": self.do_spoil, "send": self.do_send,
                      "cut": self.do_cut}[word]
        except (TypeError, ValueError, KeyError):
            raise Refused from None
        if thing.__class__ is not tuple or len(parts) != action.__code__.co_argcount - 1:
            raise Refused
        return action(*parts)

    def need(self, good):
        if not good:
            raise Refused

    def do_start(self, house):
        self.need(number_below(self.many, house) and self.posts[house].state[0] == "asleep")
        return self.start(house)

    def do_keep(self, house):
        self.need(number_below(self.many, house))
        self.blocks[house].append(sealed(("past", self.posts[house].past())))
        self.synced[house] = len(self.blocks[house])
        return self.synced[house]

    def do_post(self, house, to):
        self.need(number_below(self.many, house) and number_below(self.many, to) and to in self.posts[house].beside)
        self.bag.append((to, self.letter(house, to)))

    def do_bring(self, at):
        self.need(number_below(len(self.bag), at))
        return self.hear(*self.bag.pop(at))

    def do_lose(self, at):
        self.need(number_below(len(self.bag), at))
        self.bag.pop(at)

    def do_double(self, at):
        self.need(number_below(len(self.bag), at))
        self.bag.append(self.bag[at])

    def do_spoil(self, at, place, byte):
        self.need(number_below(len(self.bag), at) and number_below(256, byte))
        to, row = self.bag[at]
        self.need(number_below(len(row), place))
        row = list(row)
        row[place] = byte
        self.need(not unsealed(tuple(row)) or tuple(row) == self.bag[at][1])
        self.bag[at] = (to, tuple(row))

    def do_send(self, to, row):
        self.need(number_below(self.many, to) and is_row(row) and not unsealed(row))
        self.bag.append((to, row))

    def do_cut(self, house, kept):
        self.need(number_below(self.many, house) and kept.__class__ is tuple)
        waiting = self.blocks[house][self.synced[house]:]
        self.need(len(kept) == len(waiting))
        self.need(all(number_below(len(block) + 1, many) for block, many in zip(waiting, kept)))
        blocks = self.blocks[house][:self.synced[house]]
        blocks += [block[:many] for block, many in zip(waiting, kept)]
        self.posts[house], right = behind_blocks(self.course, house, blocks)
        self.blocks[house], self.synced[house] = blocks[:right], right

    def glass(self):
        ways = []
        for house, post in enumerate(self.posts):
            for to in post.beside:
                words = post.put[to][max(post.known[to], self.posts[to].taken[house]):]
                if words:
                    ways.append((house, to, tuple(words)))
        return tuple(post.state for post in self.posts), tuple(ways)

    def round_trip(self):
        for house, post in enumerate(self.posts):
            if post.state[0] == "asleep":
                self.start(house)
        for house in range(self.many):
            for to in self.posts[house].beside:
                while len(self.posts[house].put[to]) > self.posts[house].known[to]:
                    self.hear(to, self.letter(house, to))
                    self.hear(house, self.letter(to, house))

    def is_settled(self):
        return all(post.state[0] == "over" and all(post.known[to] == len(post.put[to]) for to in post.beside)
                   for post in self.posts)
