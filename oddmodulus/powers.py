"""Powers modulo a number, the exponent as a row of bytes, the lowest first."""

DIGIT_BITS = 4
DIGITS = 16


def power_modulo(base, exponent, modulus):
    # The exponent is gone through four bits at a time, from the highest: a product for each bit of a long one would
    # take half as long again.
    powers = first_powers(base, modulus)
    power = 1
    for byte in reversed(exponent):
        for digit in (byte // DIGITS, byte % DIGITS):
            power = sixteenth_power(power, modulus) * powers[digit] % modulus
    return power


def first_powers(base, modulus):
    """The powers of base by every digit, 0 to 15."""
    powers = [1]
    for digit in range(1, DIGITS):
        powers.append(powers[digit - 1] * base % modulus)
    return powers


def sixteenth_power(number, modulus):
    power = number
    for bit in range(DIGIT_BITS):
        power = power * power % modulus
    return power
