"""Books: machines told by what they do behind each of finitely many roads, a map or one fraction."""

from leftroads.checks import check_book, check_fraction, check_machine
from leftroads.entries import entries_of_states, least_entries, sent_by_entries, wild_way, with_map_ahead
from leftroads.forms import least_form
from leftroads.machines import moved_on
from leftroads.maps import rows_of_standings, settled, standings_from
from leftroads.roads import course, road_of


def book_of(machine):
    """Return the least book of a machine, None if it has none."""
    check_machine(machine)
    form = least_form(machine)
    if wild_way(form[1]) is not None:
        return None
    return entries_of_states(form)


def machine_of_book(book):
    """Return the least form of the machine that writes what a book tells."""
    check_book(book)
    alone = [(road, told) for road, told in book if len(told) == 2]
    starts = {road: settled(told) for road, told in book if len(told) == 4}
    # The machines of maps of one size share their states, so that each is made but once.
    found = standings_from([standing for _, standing in starts.values()])
    numbers = {standing: len(alone) + number for number, standing in enumerate(found)}
    # What is written first, and the state that follows, where the road of an entry is come to.
    steps = {road: ("", number) for number, (road, _) in enumerate(alone)}
    for road, (word, standing) in starts.items():
        steps[road] = (word, numbers[standing])
    rows = [(steps[road + "L"], steps[road + "R"], road_of(told)) for road, told in alone]
    return least_form((steps[""][0], rows + moved_on(rows_of_standings(found), len(alone))))


def sent_by(book, fraction):
    """Return the fraction whose road a book tells for the road of another one."""
    check_book(book)
    check_fraction(fraction)
    return sent_by_entries(dict_of(book), fraction)


def dict_of(book):
    """Return the dict of what is told behind each road of a book."""
    return {road: told for road, told in book}


def least_book(book):
    """Return the least book that tells the same."""
    check_book(book)
    return least_entries(dict_of(book))


def book_behind(one, other):
    """Return the least book that does what one book does, then what another one does."""
    check_book(one)
    check_book(other)
    other_told = dict_of(other)
    entries = {}
    for road, told in one:
        if len(told) == 2:
            entries[road] = sent_by_entries(other_told, told)
        else:
            entries.update(with_map_ahead(road, told, other_told))
    return least_entries(entries)


def wild(machine):
    """Return a course so that a machine does a map behind none of its beginnings, None if there is none."""
    check_machine(machine)
    way = wild_way(least_form(machine)[1])
    if way is None:
        return None
    ahead, ring = way
    return course(ahead, ring)
