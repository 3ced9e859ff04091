"""Numbers: the remainders on division by a prime p."""


def is_prime(n):
    """Whether an integer is a prime."""
    if n < 2:
        return False
    part = 2
    while part * part <= n:
        if n % part == 0:
            return False
        part += 1
    return True


def power(p, a, k):
    """a to the k, by squaring; 1 for k 0."""
    answer = 1
    square = a % p
    left = k
    while left > 0:
        if left % 2 == 1:
            answer = answer * square % p
        square = square * square % p
        left = left // 2
    return answer


def inverse(p, a):
    """The number whose product with a is 1, for a that is not 0."""
    # a to the p - 1 is 1 for a prime p, so one factor less is what is sought.
    return power(p, a, p - 2)
