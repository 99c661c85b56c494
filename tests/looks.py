"""What the tests of hosts share: short ways to do deeds, and to see all that a host is."""

from foldkeep.errors import NotPossible
from foldkeep.hosts import host_copy


def inside(*path):
    """A spot in the folder."""
    return ("folder", path)


def beyond(*path):
    """A spot outside."""
    return ("outside", path)


def make(host, *path, text="", runs=False):
    """Makes a file in the folder and returns its number."""
    host.program(("make", inside(*path), text, runs))
    return number_at(host, *path)


def make_folder(host, *path):
    """Makes a folder in the folder and returns its number."""
    host.program(("make_folder", inside(*path)))
    return number_at(host, *path)


def opened_folder(host, *path):
    """Makes a folder, opens it and returns its number."""
    number = make_folder(host, *path)
    host.program(("open", inside(*path)))
    return number


def number_at(host, *path):
    """The number of what stands at exactly this path in the folder."""
    return [row[2] for row in host.tree() if row[0] == path][0]


def paths(rows):
    """The paths of the rows of a tree."""
    return [row[0] for row in rows]


def row_of(host, number):
    """The row of the thing with this number, wherever it is; None if it is nowhere."""
    rows = host.tree() + host.outside()
    for _, lying in host.shelf():
        rows = rows + lying
    for row in rows:
        if row[2] == number:
            return row
    return None


def whole(host):
    """All that can be told of a host, also the number that the next new thing would get."""
    probe = host_copy(host)
    answer = probe.ask(("stage", 987654321, "", False))
    fresh = [row[1] for row in probe.ask(("shelf",))[1] if row[0] == 987654321]
    read = [(thing, count) for thing in range(1, 30) for count in range(6)
            if host.ask(("was_read", thing, count)) == ("was_read", True)]
    staged = [place for place, _ in host.shelf() if host_copy(host).ask(("stage", place, "", False)) == ("done",)]
    return (host.tree(), host.outside(), host.shelf(), host.turned, list(host.opened), answer, fresh, read, staged)


def refuses_deed(case, host, deed):
    """Checks that the deed raises NotPossible and changes nothing."""
    before = whole(host)
    with case.assertRaises(NotPossible, msg=str(deed)):
        host.program(deed)
    case.assertEqual(whole(host), before, deed)


def refuses(case, host, operation):
    """Checks that the operation is refused and changes nothing."""
    before = whole(host)
    case.assertEqual(host.ask(operation), ("refused",), operation)
    case.assertEqual(whole(host), before, operation)


def does(case, host, operation, turned):
    """Checks that the operation is done, and how often names were changed by it."""
    before = host.turned
    case.assertEqual(host.ask(operation), ("done",), operation)
    case.assertEqual(host.turned - before, turned, operation)
