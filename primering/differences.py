"""The calls upon one ring of points, answered number by number."""

NO_SUCH_POINT = -2
NOT_BEGUN = -11
ALREADY_KEPT = -17
NOT_FIT = -22
FULL = -28
NOBODY = -33

PRIMES_END = 200
MOST_KEPT = 12

BEGIN = 0

# Every call of the interface has its place here: one that comes ahead of a begin has to be stepped over whole.
ARGUMENT_COUNTS = (1, 1, 1, 0, 1, 1, 0, 2, 1, 2, 2, 1, 1, 0, 0, 0, 0, 2, 0)

# These calls are handed points alone, and are refused first of all where one of them isn't on the ring.
CALLS_OF_POINTS = (1, 2, 7, 8, 9)


class Ring:
    """What one line of calls works on; its prime is 0 until a begin is answered 0."""

    def __init__(self):
        self.prime = 0
        self.squares = {}
        self.kept_points = []


def is_odd_prime_in_bounds(number):
    if number < 3 or number >= PRIMES_END:
        return False
    for divisor in range(2, number):
        if number % divisor == 0:
            return False
    return True


def squares_left_by(prime):
    squares = {}
    for number in range(1, prime):
        squares[number * number % prime] = True
    return squares


def leads_to(ring, source, target):
    return (target - source) % ring.prime in ring.squares


def each_leads_to(ring, sources, target):
    for source in sources:
        if not leads_to(ring, source, target):
            return False
    return True


def leads_to_each(ring, source, targets):
    for target in targets:
        if not leads_to(ring, source, target):
            return False
    return True


def led_to_by_each(ring, sources):
    return [point for point in range(ring.prime) if each_leads_to(ring, sources, point)]


def leading_to_each_kept(ring):
    # No point leads to itself, so one that is kept is never among these.
    return [point for point in range(ring.prime) if leads_to_each(ring, point, ring.kept_points)]


def counted(points):
    return [len(points)] + points


def begin(ring, given):
    prime = given[0]
    if not is_odd_prime_in_bounds(prime):
        return [NOT_FIT]
    ring.prime = prime
    ring.squares = squares_left_by(prime)
    ring.kept_points = []
    return [0]


def put(ring, given):
    point = given[0]
    if point in ring.kept_points:
        return [ALREADY_KEPT]
    if len(ring.kept_points) == MOST_KEPT:
        return [FULL]
    ring.kept_points.append(point)
    return [len(ring.kept_points)]


def take(ring, given):
    point = given[0]
    if point not in ring.kept_points:
        return [NO_SUCH_POINT]
    ring.kept_points.remove(point)
    return [len(ring.kept_points)]


def tell_kept(ring, given):
    return counted(ring.kept_points)


def move(ring, given):
    distance = given[0]
    ring.kept_points = [(point + distance) % ring.prime for point in ring.kept_points]
    return counted(ring.kept_points)


def times(ring, given):
    factor = given[0]
    if factor % ring.prime == 0:
        return [NOT_FIT]
    ring.kept_points = [factor * point % ring.prime for point in ring.kept_points]
    return counted(ring.kept_points)


def grow(ring, given):
    if len(ring.kept_points) == MOST_KEPT:
        return [FULL]
    leading = leading_to_each_kept(ring)
    if len(leading) == 0:
        return [NOBODY]
    ring.kept_points.append(leading[0])
    return [leading[0]]


def leads(ring, given):
    source = given[0]
    target = given[1]
    if source == target:
        return [NOT_FIT]
    return [1 if leads_to(ring, source, target) else 0]


def of(ring, given):
    return counted(led_to_by_each(ring, given))


def common(ring, given):
    if given[0] == given[1]:
        return [NOT_FIT]
    return counted(led_to_by_each(ring, given))


CALLS = {
    0: begin,
    1: put,
    2: take,
    3: tell_kept,
    4: move,
    5: times,
    6: grow,
    7: leads,
    8: of,
    9: common,
}


def answer_of(ring, number, given):
    if number != BEGIN and ring.prime == 0:
        return [NOT_BEGUN]
    if number in CALLS_OF_POINTS and max(given) >= ring.prime:
        return [NO_SUCH_POINT]
    return CALLS[number](ring, given)


def answers(calls):
    """Answer each call of the list, in order: how many numbers its answer has, then these."""
    ring = Ring()
    numbers = []
    at = 0
    while at < len(calls):
        number = calls[at]
        behind = at + 1 + ARGUMENT_COUNTS[number]
        answer = answer_of(ring, number, calls[at + 1:behind])
        numbers.append(len(answer))
        numbers.extend(answer)
        at = behind
    return numbers
