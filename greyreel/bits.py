"""Numbers as bits, and bits as bytes, the uppermost first."""

MOST_ZEROS = 20


class Refused(ValueError):
    pass


# A number with as many zeros before it as it has bits, less one, is that number written so wide.
def number_length(number):
    return 2 * (number + 1).bit_length() - 1


def number_bits(number):
    value = number + 1
    return [(value >> k) & 1 for k in range(number_length(number) - 1, -1, -1)]


def unsigned(number):
    return 2 * number - 1 if number > 0 else -2 * number


def signed_length(number):
    return number_length(unsigned(number))


def signed_bits(number):
    return number_bits(unsigned(number))


def packed(bits):
    filled = bits + [0] * (-len(bits) % 8)
    row = []
    for start in range(0, len(filled), 8):
        byte = 0
        for bit in filled[start:start + 8]:
            byte = 2 * byte + bit
        row.append(byte)
    return row


def unpacked(row):
    bits = []
    for byte in row:
        bits.extend([(byte >> k) & 1 for k in (7, 6, 5, 4, 3, 2, 1, 0)])
    return bits


class BitReader:

    def __init__(self, row):
        self.bits = unpacked(row)
        self.place = 0

    def take_bit(self):
        if self.place >= len(self.bits):
            raise Refused("cut short")
        self.place += 1
        return self.bits[self.place - 1]

    def take_number(self):
        zeros = 0
        while self.take_bit() == 0:
            zeros += 1
            if zeros > MOST_ZEROS:
                raise Refused("too many zeros before a number")
        value = 1
        for turn in range(zeros):
            value = 2 * value + self.take_bit()
        return value - 1

    def take_signed(self):
        number = self.take_number()
        return (number + 1) // 2 if number % 2 == 1 else -(number // 2)

    def finish(self):
        rest = self.bits[self.place:]
        if len(rest) > 7:
            raise Refused("a byte behind the end")
        if any(rest):
            raise Refused("the filling is not of zeros")
