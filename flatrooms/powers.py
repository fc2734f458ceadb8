"""Powers of numbers."""


def power(base, many):
    """The product of so many factors base."""
    product = 1
    for _ in range(many):
        product *= base
    return product
