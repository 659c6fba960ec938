"""How much hardener will do for so much resin, by the ratio and the thousandths told to the bed."""

WHOLE = 1000


def is_mixed_rightly(bed, resin, hardener):
    wanted = resin * bed.hardener_part
    return abs(wanted - hardener * bed.resin_part) * WHOLE <= bed.thousandths * wanted


def least_hardener(bed, resin):
    """The least whole amount that isn't too little, be it too much or not."""
    # a quotient is rounded up by rounding down what is below 0
    return -(-resin * bed.hardener_part * (WHOLE - bed.thousandths) // (WHOLE * bed.resin_part))


def greatest_hardener(bed, resin):
    """The greatest whole amount that isn't too much, be it too little or not."""
    return resin * bed.hardener_part * (WHOLE + bed.thousandths) // (WHOLE * bed.resin_part)
