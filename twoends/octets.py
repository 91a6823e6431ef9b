"""Bytes as lists of whole numbers from 0 to 255; numbers have the lowest byte first."""


def number_of(octets):
    number = 0
    for place, octet in enumerate(octets):
        number = number | (octet << (8 * place))
    return number


def octets_of(number, size):
    return [(number >> (8 * place)) & 255 for place in range(size)]


def words_of(octets):
    words = []
    for at in range(0, len(octets), 4):
        words.append(number_of(octets[at:at + 4]))
    return words


def octets_of_text(text):
    return [ord(sign) for sign in text]


def filled(octets, size):
    missing = (size - len(octets) % size) % size
    return octets + [0] * missing
