"""How numbers below 0 and numbers that aren't whole are told by whole numbers from 0 on."""


def with_sign(number):
    if number < 0:
        return [1, -number]
    return [0, number]


def common_divisor(a, b):
    greater = a
    lesser = b
    while lesser > 0:
        rest = greater % lesser
        greater = lesser
        lesser = rest
    return greater


def ratio(above, below):
    """above by below (which is over 0): with a sign, and with nothing in common."""
    common = common_divisor(abs(above), below)
    told = with_sign(above)
    return [told[0], told[1] // common, below // common]
