"""What the other files need of whole numbers."""


def is_whole(thing):
    """Tell whether a thing, whatever it is, is a whole number."""
    # Python counts True and False among its ints; here they are truths alone.
    return isinstance(thing, int) and not isinstance(thing, bool)


def are_whole(things):
    """Tell whether all things of a list or a tuple are whole numbers."""
    return all([is_whole(thing) for thing in things])


def has_few_figures(number):
    """Tell whether a whole number has at most thirty figures; its sign is none."""
    # Not by its text: Python refuses to write very long numbers.
    return abs(number) < 10 ** 30


def sign(number):
    """Tell 1, 0 or -1: a number above 0, 0 itself, one below 0."""
    if number > 0:
        return 1
    if number < 0:
        return -1
    return 0


def common_divisor(one, other):
    """Tell the greatest whole number that divides both; 0 where both are 0."""
    divisor = abs(one)
    rest = abs(other)
    while rest != 0:
        divisor, rest = rest, divisor % rest
    return divisor


def whole_root(number):
    """Tell the greatest whole number whose square is not above a number from 0 on."""
    high = 1
    while high * high <= number:
        high = 2 * high
    low = 0
    while high - low > 1:
        half = (low + high) // 2
        if half * half <= number:
            low = half
        else:
            high = half
    return low


def sign_counts(signs):
    """Tell how many of these signs are -1, 0 and 1."""
    return (signs.count(-1), signs.count(0), signs.count(1))


def is_even_share(shares):
    """Tell whether neither those below nor those above, of three counts, are more than half of all."""
    below, on, above = shares
    many = below + on + above
    return 2 * below <= many and 2 * above <= many
