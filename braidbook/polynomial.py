"""The polynomial of a row whose ends are joined, as the sum over all choices for its crossings."""

# Beyond three for each crossing, so many exponents are told on each side.
MARGIN = 16


# A row's strands after a choice for each crossing so far. End i is the upper
# one at place i, end n + i the lower one; partners says of each end to which
# one its strand leads.
class Picture:
    def __init__(self, partners, loops, exponent):
        self.partners = partners
        self.loops = loops
        self.exponent = exponent


def picture_without_crossings(n):
    return Picture(list(range(n, 2 * n)) + list(range(n)), 0, 0)


def connect(partners, one, other):
    partners[one] = other
    partners[other] = one


def straight(picture, sign):
    return Picture(picture.partners, picture.loops, picture.exponent + sign)


def bent(picture, left, sign):
    """The picture with the strands of the lower ends left and left + 1 joined, and two new ends below."""
    right = left + 1
    if picture.partners[left] == right:
        return Picture(picture.partners, picture.loops + 1, picture.exponent - sign)
    partners = list(picture.partners)
    connect(partners, partners[left], partners[right])
    connect(partners, left, right)
    return Picture(partners, picture.loops, picture.exponent - sign)


def pictures_of(n, row):
    pictures = [picture_without_crossings(n)]
    for crossing in row:
        sign = 1 if crossing > 0 else -1
        left = n + abs(crossing) - 1
        pictures = [straight(p, sign) for p in pictures] + [bent(p, left, sign) for p in pictures]
    return pictures


def loops_when_joined(n, picture):
    walked = [False] * n
    loops = picture.loops
    for start in range(n):
        if not walked[start]:
            loops = loops + 1
        end = start
        while not walked[end % n]:
            walked[end % n] = True
            # On to where the strand leads, and over to the end that is joined to it.
            end = (picture.partners[end] + n) % (2 * n)
    return loops


def powers_of_loop(most):
    """The numbers of -A^2 - A^-2 to the powers 0 to most: of power p those of A^(-2 p), A^(-2 p + 4) and so on."""
    powers = [[1]]
    while len(powers) <= most:
        last = powers[-1]
        powers.append([-x - y for x, y in zip([0] + last, last + [0])])
    return powers


def polynomial_of(n, row):
    """The numbers of the exponents from the least on that is told to the greatest."""
    most = 3 * len(row) + MARGIN
    numbers = [0] * (2 * most + 1)
    powers = powers_of_loop(n + len(row))
    for picture in pictures_of(n, row):
        power = loops_when_joined(n, picture) - 1
        least = most + picture.exponent - 2 * power
        for i, number in enumerate(powers[power]):
            numbers[least + 4 * i] = numbers[least + 4 * i] + number
    return numbers
