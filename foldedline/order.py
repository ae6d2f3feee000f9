"""The order of all numbers: which number of steps brings which."""


def power_of_two_in(number):
    """The power of two that the number, 1 or more, is an odd number times of."""
    power = 1
    while number % (2 * power) == 0:
        power = 2 * power
    return power


def brings_number(k, l):
    """Whether k brings l, both 1 or more."""
    k_power = power_of_two_in(k)
    l_power = power_of_two_in(l)
    k_odd = k // k_power
    l_odd = l // l_power
    if k == l:
        return True
    if k_odd == 1:
        return l_odd == 1 and l < k
    if l_odd == 1 or k_power < l_power:
        return True
    return k_power == l_power and k_odd < l_odd
