"""How the plainest things are read from a Reader of foldkeep.codes. What is missing or wrong raises NoKeeper."""

from foldkeep.errors import NoKeeper

# All characters that a text may have.
SIGNS = " !\"#$&'()*+,-./0123456789:;<=>?@ABCDEFGHIJKLMNOPQRSTUVWXYZ[\\]^_`abcdefghijklmnopqrstuvwxyz{|}~\n\t"


def flag_in(reader):
    """The next thing that is True or False."""
    code = reader.number()
    if code != 0 and code != 1:
        raise NoKeeper("an integer is neither 0 nor 1")
    return code == 1


def sign_in(reader):
    """The next character."""
    code = reader.number()
    if code not in reader.signs:
        raise NoKeeper("a code point is not one of a character that texts may have")
    return reader.signs[code]


def size_in(reader):
    """The next length of a list."""
    many = reader.number()
    if many > len(reader.numbers) - reader.passed:
        raise NoKeeper("a list has fewer elements than it should have")
    return many


def text_in(reader):
    """The next string."""
    return "".join([reader.sign() for _ in range(reader.size())])


def path_in(reader):
    """The next path."""
    return tuple([reader.text() for _ in range(reader.size())])


def edit_id_in(reader):
    """The next id."""
    clock = reader.number()
    return (clock, reader.number())


def edit_ids_in(reader):
    """The next list of ids."""
    return tuple([reader.edit_id() for _ in range(reader.size())])


def maybe_id_in(reader):
    """The next id that may be None."""
    if reader.flag():
        return reader.edit_id()
    return None


def mark_in(reader):
    """The next mark."""
    length = reader.number()
    low_sum = reader.number()
    high_sum = reader.number()
    return (length, low_sum, high_sum, reader.flag())


def content_in(reader):
    """The next mark that may be None."""
    if reader.flag():
        return reader.mark()
    return None
