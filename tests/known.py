"""Messages that were made once; what is sealed in them was made by another program for Noise_IKpsk2 too."""

from tests.reference import PUB


def span(start):
    """Thirty-two bytes that count up."""
    return bytes(range(start, start + 32))


SECRET_A = span(1)
SECRET_B = span(33)
A = PUB(SECRET_A)
B = PUB(SECRET_B)
PSK = span(65)
MOMENT_A = span(97)
MOMENT_B = span(129)
MINE_A = 11
MINE_B = 22
STAMP = bytes(11) + b"\x05"
FIRST = bytes.fromhex(
    "010000000b000000244fe3b963e899dd295baffce248d3530f3a9a7479ba063002680ebfe7adad49cea76d7fc853aade"
    "12d6996b10ef94ff13dee02cca397b9659fe8d62917bbf80ec58adf78f9e8d76e3b48f67a863af0c8d6352120dd9873e"
    "881878410dad5aeb1d7e7fa8beabc76f15737ba5efbaa11d4aa19b929a2b592a69cd9951" + "00" * 16)
SECOND = bytes.fromhex(
    "02000000160000000b000000883186b800b41d5cf0429695da9b3cc4f328ebcd184a6e482fa578c103f06c776ef214f1"
    "4dbeb041d1825ac8c4a37bc16b533fc236b13c748c32f6e8fc9d1553" + "00" * 16)
PLAIN = b"hello"
PACKET = bytes.fromhex(
    "0400000016000000000000000000000078b869d1a712b5dea722d07d45b2de199d57ed9c31c5d2942fe68d5027956d49")
