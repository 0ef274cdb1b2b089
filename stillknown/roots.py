"""The whole numbers at which polynomials of whole numbers are 0, however great they are."""


def worth_at(polynomial, number):
    """The worth of a polynomial, its coefficients from the power 0 on."""
    out = 0
    for coefficient in reversed(polynomial):
        out = out * number + coefficient
    return out


def without_zeros(polynomial):
    """The polynomial without powers that have the coefficient 0 at its end."""
    many = len(polynomial)
    while many > 0 and polynomial[many - 1] == 0:
        many -= 1
    return list(polynomial[:many])


def slope_of(polynomial):
    """The polynomial that tells how steep this one is."""
    return [power * coefficient for power, coefficient in enumerate(polynomial)][1:]


def sign_at(polynomial, number):
    """1, 0 or -1 as the worth is above, at or below 0."""
    worth = worth_at(polynomial, number)
    return (worth > 0) - (worth < 0)


def changes_of(polynomial):
    """Whole numbers c, ascending, such that each place at which a polynomial is 0 is from c to below c + 1 for one."""
    if len(polynomial) < 2:
        return []
    # Farther out the highest power outweighs all others.
    bound = 1 + max([abs(coefficient) for coefficient in polynomial])
    cuts = changes_of(slope_of(polynomial))
    found = list(cuts)
    ends = [-bound - 1] + [cut for cut in cuts if -bound - 1 < cut < bound] + [bound]
    for low, high in zip(ends, ends[1:]):
        # Between the cuts it only rises or only falls.
        change = last_before(polynomial, low + 1, high)
        if change is not None and change not in found:
            found.append(change)
    return sorted(found)


def last_before(polynomial, low, high):
    """The last whole number from low to high ahead of which the sign has not changed; None if it never changes."""
    first = sign_at(polynomial, low)
    if first == 0:
        return low
    if sign_at(polynomial, high) == first:
        return None
    while high - low > 1:
        middle = (low + high) // 2
        if sign_at(polynomial, middle) == first:
            low = middle
        else:
            high = middle
    return high if sign_at(polynomial, high) == 0 else low


def whole_roots(polynomial):
    """The whole numbers, ascending, at which a polynomial is 0; None if it is 0 everywhere."""
    short = without_zeros(polynomial)
    if len(short) == 0:
        return None
    return [number for number in changes_of(short) if worth_at(short, number) == 0]


def shared_roots(polynomials):
    """The whole numbers, ascending, at which all polynomials are 0, as a tuple; None if all are 0 everywhere."""
    for polynomial in polynomials:
        found = whole_roots(polynomial)
        if found is not None:
            return tuple([
                number for number in found if all([worth_at(other, number) == 0 for other in polynomials])
            ])
    return None
