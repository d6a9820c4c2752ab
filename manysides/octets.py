"""Reading octets one after the other."""

from manysides.errors import Damaged, Truncated

LONGEST_NUMBER = 18


class OctetReader:
    """Octets that are read from the first to the last one. It raises Truncated where they are missing."""

    def __init__(self, octets):
        self.octets = list(octets)
        self.at = 0

    def is_at_end(self):
        """Returns True if all octets were read, otherwise False."""
        return self.at == len(self.octets)

    def next_octets(self, count):
        """Returns the list of the next octets."""
        if count > len(self.octets) - self.at:
            raise Truncated(len(self.octets))
        taken = self.octets[self.at:self.at + count]
        self.at += count
        return taken

    def next_octet_of(self, allowed):
        """Returns the next octet. Raises Damaged at it if it is none of those that are allowed."""
        first = self.at
        octet = self.next_octets(1)[0]
        if octet not in allowed:
            raise Damaged(first)
        return octet

    def next_number(self):
        """Returns the next number. Raises Damaged at its first octet if it is longer than need be."""
        first = self.at
        number = 0
        weight = 1
        for index in range(LONGEST_NUMBER):
            octet = self.next_octets(1)[0]
            number += octet % 128 * weight
            weight = weight * 128
            if octet == 0 and index > 0:
                raise Damaged(first)
            if octet < 128:
                return number
        raise Damaged(first)

    def next_number_in(self, least, greatest):
        """Returns the next number. Raises Damaged at its first octet if it does not lie between two others."""
        first = self.at
        number = self.next_number()
        if not least <= number <= greatest:
            raise Damaged(first)
        return number

    def next_signed(self):
        """Returns the next signed number."""
        number = self.next_number()
        if number % 2 == 0:
            return number // 2
        return -(number // 2) - 1

    def next_four(self):
        """Returns the next number that is written in four octets, the most significant one first."""
        number = 0
        for octet in self.next_octets(4):
            number = number * 256 + octet
        return number

    def next_four_in(self, least, greatest):
        """Returns the next number in four octets. Raises Damaged at the first one if it is out of bounds."""
        first = self.at
        number = self.next_four()
        if not least <= number <= greatest:
            raise Damaged(first)
        return number

    def next_bits(self, count):
        """Returns the list of the next bits, True and False. Raises Damaged if one that fills up is 1."""
        first = self.at
        taken = self.next_octets((count + 7) // 8)
        bits = [(octet & weight) > 0 for octet in taken for weight in (128, 64, 32, 16, 8, 4, 2, 1)]
        if True in bits[count:]:
            raise Damaged(first)
        return bits[:count]
