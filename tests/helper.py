"""What the tests share: calls written as numbers, answers taken apart, and a plain reckoning to compare with."""

from itertools import combinations, product

from fewmeasures.lists import answers

WORKED = ("measures price down, size up ; item a : 10, 5 ; item b : 8, 3 ; "
          "item c : 12, 9 ; item d : 12, 5 ; item e : 8, 3 ;")
FAR = 10 ** 18


def bytes_of(text):
    return list(text.encode("ascii")) if isinstance(text, str) else list(text)


def load(text):
    told = bytes_of(text)
    return [0, len(told)] + told


def shown():
    return [1]


def sub(*measures):
    return [2, len(measures), *measures]


def cube():
    return [3]


def least(item):
    return [4, item]


def bounds(low, high):
    return [5, len(low), *low, len(high), *high]


def groups(*numbers):
    return [6, len(numbers), *numbers]


def cover(how_many):
    return [7, how_many]


def ask(*measures):
    return [8, len(measures), *measures]


def parted(numbers):
    """Parts a list that begins again and again with how many numbers come."""
    parts = []
    at = 0
    while at < len(numbers):
        end = at + 1 + numbers[at]
        if numbers[at] < 0 or end > len(numbers):
            raise AssertionError(f"no {numbers[at]} numbers behind place {at}")
        parts.append(numbers[at + 1:end])
        at = end
    return parts


def told(*calls):
    """The answer of each of the calls, on one new object."""
    return parted(answers([number for call in calls for number in call]))


def last(*calls):
    return told(*calls)[-1]


def counted(numbers):
    return [len(numbers), *numbers]


def text_of(ways, rows):
    """A list with measures m0, m1, .. and items i0, i1, .."""
    measures = ", ".join(f"m{number} {way}" for number, way in enumerate(ways))
    items = "".join(f" item i{number} : {', '.join(map(str, row))} ;" for number, row in enumerate(rows))
    return f"measures {measures} ;{items}"


def sets_in_order(count):
    return [list(chosen) for size in range(1, count + 1) for chosen in combinations(range(count), size)]


def as_good(way, value, other):
    return value >= other if way == "up" else value <= other


def is_beaten(ways, rows, item, among, chosen):
    """Whether one of these items is as good by each chosen measure, and not the same by all."""
    return any(
        all(as_good(ways[m], rows[other][m], rows[item][m]) for m in chosen)
        and any(rows[other][m] != rows[item][m] for m in chosen)
        for other in among)


def unbeaten(ways, rows, among, chosen):
    return [item for item in among if not is_beaten(ways, rows, item, among, chosen)]


def best_of_all(ways, rows, among):
    """Those of these items that none of them beats by all measures."""
    return unbeaten(ways, rows, among, range(len(ways)))


def beaten_by(ways, rows, some):
    """The set of the items that one of these beats by all measures."""
    return {item for item in range(len(rows)) if is_beaten(ways, rows, item, some, range(len(ways)))}


def mixed_numbers(start):
    """Numbers that look mixed and are the same each time."""
    number = start
    while True:
        number = (number * 1103515245 + 12345) % 2 ** 31
        yield number >> 16


def small_lists():
    """Many small lists with many values that are the same, and some larger ones, as (ways, rows)."""
    for rows in product(product(range(3), repeat=2), repeat=3):
        yield ("up", "down"), rows
    for rows in product(product(range(2), repeat=3), repeat=3):
        yield ("down", "up", "up"), rows
    for start in range(120):
        numbers = mixed_numbers(start)
        how_many, most = next(numbers) % 17, next(numbers) % 6 + 2
        rows = [tuple(next(numbers) % most - 2 for measure in range(4)) for item in range(how_many)]
        yield ("up", "down", "down", "up"), rows
    yield SPREAD_WAYS, SPREAD_ROWS
    yield ("up", "up", "up"), TWIN_ROWS
    yield ("up", "up", "up", "up"), CROSSED_ROWS


# Item 0 beats 3 and 5, 1 beats 3 and 4, 2 beats 5 and 6: 1 and 2 are the best two, and 0 is the first taken.
SPREAD_WAYS = ("up", "up")
SPREAD_ROWS = [(5, 5), (2, 9), (9, 2), (1, 4), (1, 8), (4, 1), (8, 1)]
# Item 0 is unbeaten by measure 0 and by all three, but by no two: 1 and 2 are the same by
# measure 0 and each better by one other measure, 3 is better by the last two.
TWIN_ROWS = [(5, 1, 1), (5, 2, 0), (5, 0, 2), (0, 3, 3)]
# Item 0 has the least sets (0 2) and (1 2 3): one is smaller and has a measure of the other, but is not within it.
CROSSED_ROWS = [(3, 2, 2, 2), (4, 3, 1, 3), (3, 3, 2, 1), (2, 1, 4, 3)]
