"""Numbers: fractions as pairs (above, below the line), below above 0, and their texts.

While something is reckoned a fraction needn't be in lowest terms: to bring long ones there takes longer than
to go on with them. What is kept or told goes through lowest.
"""

FINEST = 4611686018427387904
LONGEST_WHOLE = 19


def upright(above, below):
    """The fraction with what is below the line above 0."""
    if below < 0:
        return (-above, -below)
    return (above, below)


def plus(a, b):
    """The sum of two fractions."""
    return (a[0] * b[1] + b[0] * a[1], a[1] * b[1])


def minus(a, b):
    """The first fraction less the second."""
    return (a[0] * b[1] - b[0] * a[1], a[1] * b[1])


def times(a, b):
    """The product of two fractions."""
    return (a[0] * b[0], a[1] * b[1])


def over(a, b):
    """The first fraction divided by the second; None if that is 0."""
    if b[0] == 0:
        return None
    return upright(a[0] * b[1], a[1] * b[0])


def negative(a):
    """The fraction with the other sign."""
    return (-a[0], a[1])


def at_most(a, b):
    """Whether the first fraction isn't greater than the second."""
    return a[0] * b[1] <= b[0] * a[1]


def lesser(a, b):
    """The lesser of two fractions."""
    return a if at_most(a, b) else b


def greater(a, b):
    """The greater of two fractions."""
    return b if at_most(a, b) else a


def alike(a, b):
    """Whether two fractions are one number."""
    return a[0] * b[1] == b[0] * a[1]


def lowest(number):
    """The fraction in lowest terms; None if it's too fine.

    The steps by which two numbers' greatest common divisor is found give the fraction's convergents too: each in
    lowest terms, none with less above or below the line than the one before, the last the fraction itself. So it
    is too fine as soon as one of them is: few steps tell that, however long the numbers are.
    """
    upper = abs(number[0])
    under = number[1]
    last = (0, 1)
    convergent = (1, 0)
    while under != 0:
        whole = upper // under
        further = (whole * convergent[0] + last[0], whole * convergent[1] + last[1])
        if max(further) > FINEST:
            return None
        last = convergent
        convergent = further
        rest = upper - whole * under
        upper = under
        under = rest
    if number[0] < 0:
        return negative(convergent)
    return convergent


def number_text(number):
    """The text of a number in lowest terms."""
    if number[1] == 1:
        return str(number[0])
    return str(number[0]) + "/" + str(number[1])


def whole_of(digits):
    """The whole number of a row of digits; None if it's no such row, or longer than any number may be."""
    if not digits.isdigit() or len(digits) > LONGEST_WHOLE:
        return None
    return int(digits)


def number_of(text):
    """The number of which this is the text; None if it's no number's, or of one that is too fine."""
    halves = text.lstrip("-").partition("/")
    above = whole_of(halves[0])
    below = 1 if halves[1] == "" else whole_of(halves[2])
    if above is None or below is None or below == 0:
        return None
    number = lowest((above, below))
    if number is None:
        return None
    if text.startswith("-"):
        number = negative(number)
    # Noughts in front, other terms than the lowest, -0 and the like: each number has one text alone.
    if number_text(number) != text:
        return None
    return number
