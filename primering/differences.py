"""The calls upon one ring of points, answered number by number."""

NO_SUCH_POINT = -2
NOT_BEGUN = -11
ALREADY_KEPT = -17
NOT_FIT = -22
FULL = -28
NONE_THERE = -33

PRIMES_END = 200
MOST_KEPT = 12

BEGIN = 0

# Every call of the interface has its place here: one that comes ahead of a begin has to be stepped over whole.
ARGUMENT_COUNTS = (1, 1, 1, 0, 1, 1, 0, 2, 1, 2, 2, 1, 1, 0, 0, 0, 0, 2, 0)

# These calls are handed points alone, and are refused first of all where one of them isn't on the ring.
CALLS_OF_POINTS = (1, 2, 7, 8, 9, 10, 11, 17)


class Ring:
    """What one line of calls works on; its prime is 0 until a begin is answered 0."""

    def __init__(self):
        self.prime = 0
        self.squares = {}
        self.kept_points = []


def is_odd_prime_in_bounds(number):
    if number < 3 or number >= PRIMES_END:
        return False
    for divisor in range(2, number):
        if number % divisor == 0:
            return False
    return True


def squares_left_by(prime):
    squares = {}
    for number in range(1, prime):
        squares[number * number % prime] = True
    return squares


def leads_to(ring, source, target):
    return (target - source) % ring.prime in ring.squares


def each_leads_to(ring, sources, target):
    for source in sources:
        if not leads_to(ring, source, target):
            return False
    return True


def leads_to_each(ring, source, targets):
    for target in targets:
        if not leads_to(ring, source, target):
            return False
    return True


def led_to_by_each(ring, sources):
    return [point for point in range(ring.prime) if each_leads_to(ring, sources, point)]


def leading_to_each(ring, targets):
    # No point leads to itself, so none of the targets is ever among these.
    return [point for point in range(ring.prime) if leads_to_each(ring, point, targets)]


def led_to_by_any(ring, sources):
    points = {}
    for source in sources:
        for square in ring.squares:
            points[(source + square) % ring.prime] = True
    return points


def how_often_led(ring, sources, targets):
    """How many ordered pairs there are of a source and a target to which it leads."""
    often = 0
    for source in sources:
        often += len([target for target in targets if leads_to(ring, source, target)])
    return often


def leads_both_ways(ring):
    return ring.prime % 4 == 1


def how_many_pairs(ring, sources, targets):
    # Where one leads both ways the two lists are always the same, and a pair is met in both its orders.
    often = how_often_led(ring, sources, targets)
    return often // 2 if leads_both_ways(ring) else often


def greatest_group_upon(ring, members, fitting, best):
    """The best group so far, or a greater one of these members and some of those fitting, all rising."""
    if len(members) > len(best):
        best = members
    for at, point in enumerate(fitting):
        # As many as the best has are not enough: of these the best came first already.
        if len(members) + len(fitting) - at <= len(best):
            break
        still_fitting = [later for later in fitting[at + 1:] if leads_to(ring, point, later)]
        best = greatest_group_upon(ring, members + [point], still_fitting, best)
    return best


def counted(points):
    return [len(points)] + points


def begin(ring, given):
    prime = given[0]
    if not is_odd_prime_in_bounds(prime):
        return [NOT_FIT]
    ring.prime = prime
    ring.squares = squares_left_by(prime)
    ring.kept_points = []
    return [0]


def put(ring, given):
    point = given[0]
    if point in ring.kept_points:
        return [ALREADY_KEPT]
    if len(ring.kept_points) == MOST_KEPT:
        return [FULL]
    ring.kept_points.append(point)
    return [len(ring.kept_points)]


def take(ring, given):
    point = given[0]
    if point not in ring.kept_points:
        return [NO_SUCH_POINT]
    ring.kept_points.remove(point)
    return [len(ring.kept_points)]


def tell_kept(ring, given):
    return counted(ring.kept_points)


def move(ring, given):
    distance = given[0]
    ring.kept_points = [(point + distance) % ring.prime for point in ring.kept_points]
    return counted(ring.kept_points)


def times(ring, given):
    factor = given[0]
    if factor % ring.prime == 0:
        return [NOT_FIT]
    ring.kept_points = [factor * point % ring.prime for point in ring.kept_points]
    return counted(ring.kept_points)


def grow(ring, given):
    if len(ring.kept_points) == MOST_KEPT:
        return [FULL]
    leading = leading_to_each(ring, ring.kept_points)
    if len(leading) == 0:
        return [NONE_THERE]
    ring.kept_points.append(leading[0])
    return [leading[0]]


def leads(ring, given):
    source = given[0]
    target = given[1]
    if source == target:
        return [NOT_FIT]
    return [1 if leads_to(ring, source, target) else 0]


def of(ring, given):
    return counted(led_to_by_each(ring, given))


def common(ring, given):
    if given[0] == given[1]:
        return [NOT_FIT]
    return counted(led_to_by_each(ring, given))


def into(ring, given):
    if given[0] == given[1]:
        return [NOT_FIT]
    return counted(leading_to_each(ring, given))


def rounds(ring, given):
    # Those that x leads to are also those that lead to it where one leads both ways: y and z are met either way about.
    return [how_many_pairs(ring, led_to_by_each(ring, given), leading_to_each(ring, given))]


def differ(ring, given):
    difference = given[0]
    if difference % ring.prime == 0:
        return [NOT_FIT]
    return [len([square for square in ring.squares if (square - difference) % ring.prime in ring.squares])]


def who(ring, given):
    return counted(leading_to_each(ring, ring.kept_points))


def inner(ring, given):
    return [how_many_pairs(ring, ring.kept_points, ring.kept_points)]


def group(ring, given):
    many = len(ring.kept_points)
    often = how_often_led(ring, ring.kept_points, ring.kept_points)
    return [1 if often == many * (many - 1) else 0]


def greatest(ring, given):
    if not leads_both_ways(ring):
        return [NONE_THERE]
    return counted(greatest_group_upon(ring, [0, 1], led_to_by_each(ring, [0, 1]), []))


def steps(ring, given):
    source = given[0]
    target = given[1]
    taken = 0
    reached = {source: True}
    while target not in reached:
        reached = led_to_by_any(ring, reached)
        taken += 1
    return [taken]


def told(ring, given):
    return [ring.prime, ring.prime % 4]


CALLS = {
    0: begin,
    1: put,
    2: take,
    3: tell_kept,
    4: move,
    5: times,
    6: grow,
    7: leads,
    8: of,
    9: common,
    10: into,
    11: rounds,
    12: differ,
    13: who,
    14: inner,
    15: group,
    16: greatest,
    17: steps,
    18: told,
}


def answer_of(ring, number, given):
    if number != BEGIN and ring.prime == 0:
        return [NOT_BEGUN]
    if number in CALLS_OF_POINTS and max(given) >= ring.prime:
        return [NO_SUCH_POINT]
    return CALLS[number](ring, given)


def answers(calls):
    """Answer each call of the list, in order: how many numbers its answer has, then these."""
    ring = Ring()
    numbers = []
    at = 0
    while at < len(calls):
        number = calls[at]
        behind = at + 1 + ARGUMENT_COUNTS[number]
        answer = answer_of(ring, number, calls[at + 1:behind])
        numbers.append(len(answer))
        numbers.extend(answer)
        at = behind
    return numbers
