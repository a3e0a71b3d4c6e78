"""The primes of which a number is made."""

from math import gcd

# Divisors up to here are tried one by one; a number of up to 10 ** 12 without one of them has at most two primes.
MOST_TRIED = 10 ** 4
# A number below 3 * 10 ** 14 that is no prime is found out by one of these.
WITNESSES = (2, 3, 5, 7, 11, 13, 17)


def primes_of(number):
    """The primes of a number from 1 to 10 ** 12, ascending, each as often as it divides the number."""
    told = []
    divisor = 2
    while divisor <= MOST_TRIED and divisor * divisor <= number:
        while number % divisor == 0:
            told.append(divisor)
            number = number // divisor
        divisor += 1 if divisor == 2 else 2
    if number == 1:
        return told
    if number < MOST_TRIED * MOST_TRIED or is_prime(number):
        return told + [number]
    one = divisor_of(number)
    return told + sorted([one, number // one])


def is_prime(number):
    """Whether an odd number above 17, below 3 * 10 ** 14, is a prime."""
    odd, halves = number - 1, 0
    while odd % 2 == 0:
        odd = odd // 2
        halves += 1
    return all([_is_passed(power(base, odd, number), halves, number) for base in WITNESSES])


def _is_passed(told, halves, number):
    """Whether a power of a base tells nothing against the number being a prime."""
    if told in (1, number - 1):
        return True
    for _ in range(halves - 1):
        told = told * told % number
        if told == number - 1:
            return True
    return False


def power(base, exponent, modulus):
    told = 1
    while exponent > 0:
        if exponent % 2 == 1:
            told = told * base % modulus
        base = base * base % modulus
        exponent = exponent // 2
    return told


def divisor_of(number):
    """A divisor above 1 of a number that is no prime, below the number."""
    step = 0
    told = number
    while told == number:
        # Two runners on one track meet modulo a prime of the number long before they meet modulo the number.
        step += 1
        slow, fast, told = 2, 2, 1
        while told == 1:
            slow = (slow * slow + step) % number
            fast = (fast * fast + step) % number
            fast = (fast * fast + step) % number
            told = gcd(slow - fast, number)
    return told
