"""Houses that last: posts that come back from their disks."""

from sameround.disks import Disk
from sameround.errors import NoDeed, NoDisk, NoPast, OtherHouse
from sameround.posts import Post, post_of
from sameround.rows import mark, sealed, unsealed
from sameround.texts import course_text


class SavedHouse(Post):
    """A post whose past lasts on a disk, up to the last letter that it let out."""

    def __init__(self, course, number, disk):
        super().__init__(course, number)
        if not isinstance(disk, Disk):
            raise NoDisk()
        first = first_block(course, number)
        blocks = disk.blocks()
        if blocks and is_of_other_house(first, blocks[0]):
            raise OtherHouse()
        post, many = read_back(course, number, first, blocks)
        disk.drop(many)
        if many == 0:
            disk.write(first)
        disk.sync()
        self._disk = disk
        self._take_over(post)

    def state(self):
        """The state of the house."""
        return super().state()

    def past(self):
        """The triple of its state, and of the states of the ends of its links, by neighbours."""
        return super().past()

    def letter(self, to):
        """The sealed row of its letter to a neighbour, behind which nothing that it did is lost."""
        row = super().letter(to)
        self._disk.sync()
        return row

    def deed(self, thing):
        """Start, or hear a letter, and note what changes its past."""
        told = super().deed(thing)
        # A start always changes it, because the house was asleep.
        if told is None or told == "new":
            self._disk.write(sealed(("deed", thing)))
        return told

    def copy(self):
        """Another SavedHouse with this past, over a disk of its own with the same blocks."""
        other = SavedHouse(self._course, self._number, Disk())
        other._disk = self._disk.copy()
        other._take_over(self)
        return other

    def keep(self):
        """Write its past; tell how many blocks there are."""
        number = self._disk.write(sealed(("past", self.past())))
        self._disk.sync()
        return number + 1

    def moved(self, disk):
        """A SavedHouse with this past, over another disk, on which nothing else stands."""
        if not isinstance(disk, Disk) or disk.blocks():
            raise NoDisk()
        other = SavedHouse(self._course, self._number, disk)
        other._take_over(self)
        other.keep()
        return other


def first_block(course, number):
    """The block with which the disk of a house begins."""
    signs = tuple([ord(sign) for sign in course_text(course)])
    return sealed(("house", mark(signs), number))


def is_of_other_house(first, block):
    """Whether a block is the first one of another house than that with this first block."""
    told = unsealed(block)
    if block == first or told == ():
        return False
    return isinstance(told[0], tuple) and len(told[0]) == 3 and told[0][0] == "house"


def read_back(course, number, first, blocks):
    """The pair of the post that blocks tell, and of how many of them, from the first on, are right."""
    post = Post(course, number)
    if not blocks or blocks[0] != first:
        return (post, 0)
    many = 1
    for block in blocks[1:]:
        behind = behind_block(course, number, post, block)
        if behind is None:
            break
        post = behind
        many += 1
    return (post, many)


def behind_block(course, number, post, block):
    """The post behind one block more, None behind one that tells no past and no deed that changed it."""
    told = unsealed(block)
    if told == () or not isinstance(told[0], tuple) or len(told[0]) != 2:
        return None
    word, thing = told[0]
    try:
        if word == "past":
            return post_of(course, number, thing)
        if word == "deed" and post.deed(thing) in (None, "new"):
            return post
    except (NoPast, NoDeed):
        return None
    return None
