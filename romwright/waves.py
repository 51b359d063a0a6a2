"""Courses of devices from release to release, in waves by which nothing is ever missing."""

from romwright.fleet import missing_among
from romwright.order import ascending, greatest_of
from romwright.pack import orders_of
from romwright.plain import BadMixture, BadName, BadReleases, is_between, is_name, NoWave, TooMany, Twice

MOST_DEVICES = 4
MOST_RELEASES = 4
MOST_BRIDGES = 8


class Course:
    """Devices with their releases, told by what they offer and want."""

    def __init__(self, names, releases):
        check_device_names(names)
        check_releases(names, releases)
        self.names = tuple(names)
        self.releases = tuple([tuple([(tuple(offers), tuple(wants)) for offers, wants in rows]) for rows in releases])

    def missing(self, mixture):
        check_mixtures(self, [mixture])
        return missing_in(self, mixture)

    def between(self, first, second):
        check_mixtures(self, [first, second])
        return mixtures_between(first, second)

    def barred(self, first, second):
        check_mixtures(self, [first, second])
        for mixture in mixtures_between(first, second):
            told = missing_in(self, mixture)
            if told != ():
                return (mixture, told)
        return None

    def turnings(self, first, second):
        check_mixtures(self, [first, second])
        numbers = [number for number in range(len(first)) if first[number] != second[number]]
        for order in orders_of(numbers):
            yield turned_one_by_one(first, second, order)

    def __and__(self, other):
        check_mixtures(self, [other])
        return next_to(self, other)

    def __add__(self, other):
        return Course(self.names, [[(bridged(offers, name, number, other), wants)
                                    for number, (offers, wants) in enumerate(rows)]
                                   for name, rows in zip(self.names, self.releases)])


def check_device_names(names):
    if len(names) > MOST_DEVICES:
        raise TooMany(MOST_DEVICES)
    for name in names:
        if not is_name(name):
            raise BadName(name)
    for number, name in enumerate(names):
        if name in names[:number]:
            raise Twice(name)


def check_releases(names, releases):
    for number in range(greatest_of([len(names), len(releases)])):
        if number >= len(names) or number >= len(releases) or not 1 <= len(releases[number]) <= MOST_RELEASES:
            raise BadReleases(number)


def check_mixtures(course, mixtures):
    for mixture in mixtures:
        if not is_mixture(course, mixture):
            raise BadMixture(mixture)


def is_mixture(course, thing):
    if not isinstance(thing, tuple) or len(thing) != len(course.names):
        return False
    return all([is_between(number, 0, len(rows) - 1) for number, rows in zip(thing, course.releases)])


def missing_in(course, mixture):
    """What is missing in a mixture, as of a fleet."""
    offers, wants = {}, {}
    for name, rows, number in zip(course.names, course.releases, mixture):
        offers[name], wants[name] = rows[number]
    return missing_among(offers, wants)


def mixtures_between(first, second):
    """The mixtures between two, ascending, a list."""
    rows = [()]
    for one, other in zip(first, second):
        numbers = [one] if one == other else ascending([one, other])
        rows = [row + (number,) for row in rows for number in numbers]
    return rows


def turned_one_by_one(first, second, order):
    """The mixtures from the first to the second, where the devices are turned in this order, a tuple."""
    mixture = first
    rows = [mixture]
    for number in order:
        mixture = mixture[:number] + (second[number],) + mixture[number + 1:]
        rows.append(mixture)
    return tuple(rows)


def next_to(course, mixture):
    """The mixtures that differ from one in one device, ascending, a list."""
    rows = []
    for number, releases in enumerate(course.releases):
        rows.extend([mixture[:number] + (each,) + mixture[number + 1:] for each in range(len(releases))
                     if each != mixture[number]])
    return ascending(rows)


def bridged(offers, name, number, told):
    """The offers of a release of a device with those that bridges give it, ascending, a tuple."""
    return tuple(ascending(list(offers) + [bridge[2:] for bridge in told if bridge[:2] == (name, number)]))


def all_mixtures(course):
    """All mixtures of a course, ascending, a list."""
    rows = [()]
    for releases in course.releases:
        rows = [row + (number,) for row in rows for number in range(len(releases))]
    return rows


def waves(course, start, goal):
    """The fewest safe waves from a mixture to another one, a tuple of mixtures."""
    check_mixtures(course, [start, goal])
    paths = wave_paths(course, start, goal)
    if goal not in paths:
        raise NoWave(tuple(ascending(paths)))
    return paths[goal]


def wave_paths(course, start, goal):
    """A dict from mixtures to the least of the shortest rows of safe waves to them, until the goal is found."""
    good = {mixture: True for mixture in all_mixtures(course) if missing_in(course, mixture) == ()}
    paths = {start: (start,)}
    queue = [start]
    at = 0
    while at < len(queue) and goal not in paths:
        here = queue[at]
        for mixture in good:
            if mixture not in paths and all([each in good for each in mixtures_between(here, mixture)]):
                paths[mixture] = paths[here] + (mixture,)
                queue.append(mixture)
        at += 1
    return paths


def bars(course, lot):
    """What bars the ways out of a lot of mixtures by one device, a tuple."""
    check_mixtures(course, lot)
    around = {each: True for mixture in lot for each in next_to(course, mixture) if each not in lot}
    rows = []
    for mixture in ascending(around):
        told = missing_in(course, mixture)
        rows.append((mixture, told[0] if len(told) > 0 else None))
    return tuple(rows)


def bridges(course, start, goal):
    """The fewest bridges with which there are waves from a mixture to another one."""
    check_mixtures(course, [start, goal])
    possible = possible_bridges(course)
    if len(possible) > MOST_BRIDGES:
        raise TooMany(MOST_BRIDGES)
    for chosen in sets_of(possible):
        if can_stand(chosen) and can_reach(course + chosen, start, goal):
            return chosen
    raise NoWave(tuple(ascending(wave_paths(course, start, goal))))


def possible_bridges(course):
    """All bridges that could be built, ascending, a list."""
    wanted = [want for rows in course.releases for _, wants in rows for want in wants]
    found = []
    for name, rows in zip(course.names, course.releases):
        told = {want[1:]: True for want in wanted if want[0] == name}
        for number, (offers, _) in enumerate(rows):
            names = [offer[0] for offer in offers]
            found.extend([(name, number) + offer for offer in told if offer[0] not in names])
    return ascending(found)


def sets_of(rows):
    """All sets of rows that ascend: the smaller ones first, of those of one size the least one, as tuples."""
    sets = [()]
    for row in rows:
        sets = sets + [chosen + (row,) for chosen in sets]
    return [chosen for _, chosen in ascending([(len(chosen), chosen) for chosen in sets])]


def can_stand(chosen):
    """Whether no release gets one name twice by these bridges."""
    return len(set([bridge[:3] for bridge in chosen])) == len(chosen)


def can_reach(course, start, goal):
    """Whether there are safe waves from a mixture to another one; then there are such waves of one device each."""
    if start == goal:
        return True
    if missing_in(course, start) != ():
        return False
    known = {start: True}
    queue = [start]
    at = 0
    while at < len(queue):
        around = next_to(course, queue[at])
        for mixture in around:
            if mixture not in known and missing_in(course, mixture) == ():
                known[mixture] = True
                queue.append(mixture)
        at += 1
    return goal in known


def mend(course, mixture):
    """The good mixture that differs from one in the fewest devices."""
    check_mixtures(course, [mixture])
    rows = []
    for each in all_mixtures(course):
        if missing_in(course, each) == ():
            rows.append((len([one for one, other in zip(each, mixture) if one != other]), each))
    if len(rows) == 0:
        raise NoWave(())
    return ascending(rows)[0][1]
