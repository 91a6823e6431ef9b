"""The interface: how calls stand in the list, how answers do, and what is left alone."""

import builtins
import contextlib
import inspect
import io
import subprocess
import sys
import unittest
from unittest import mock

from tests import known
from tests.reference import PUB, make_packet
from tests.support import (
    PSK, SECRET_A, SECRET_B, EndCase, Side, Talk, call_begin, call_open, call_send, call_take, run, some, stamp_of,
    taken_apart,
)
from twoends.desk import answers

B = PUB(SECRET_B)


def flat(calls):
    return [number for call in calls for number in call]


def known_calls():
    return flat([
        call_open(known.SECRET_A, known.B, known.PSK),
        call_send(b"too early"),
        call_begin(known.MINE_A, known.MOMENT_A, known.STAMP),
        call_take(0, some("f"), known.SECOND),
        call_send(known.PLAIN),
        call_take(0, some("f"), known.PACKET),
        call_take(0, some("f"), b""),
        call_open(known.SECRET_A, bytes(32), known.PSK),
        call_begin(1, some("e"), known.STAMP),
    ])


KNOWN_ANSWERS = [
    1, 0, 1, -3, 149, 148, *known.FIRST, 1, 2, 49, 48, *known.PACKET, 1, 0, 1, 0, 1, -2, 1, -3]


class Untouchable(list):
    """A list that fails where somebody changes it, though it were put right again."""

    def refuse(self, *args, **kwargs):
        raise AssertionError("what was handed in is changed")

    append = extend = insert = pop = remove = clear = sort = reverse = refuse
    __setitem__ = __delitem__ = __iadd__ = __imul__ = refuse


class FormTest(EndCase):
    def test_the_whole_list(self):
        self.assertEqual(answers(known_calls()), KNOWN_ANSWERS)

    def test_one_call(self):
        self.assertEqual(answers(call_open(SECRET_A, B, PSK)), [1, 0])
        self.assertEqual(answers(call_open(SECRET_A, bytes(32), PSK)), [1, -2])

    def test_an_answered_packet_has_no_count_of_its_own(self):
        talk = Talk()
        talk.shake()
        talk.b.take(talk.a.send(b"hello")[1:])
        talk.b.take(talk.a.send(b"")[1:])
        given = answers(flat(talk.b.calls))
        self.assertEqual(given[:3], [1, 0, 93])
        self.assertEqual(given[3], 1)
        self.assertEqual(given[96:], [17, 4, *b"hello", *bytes(11), 1, 4])

    def test_name_and_argument(self):
        self.assertEqual(list(inspect.signature(answers).parameters), ["calls"])
        self.assertEqual(answers(calls=call_open(SECRET_A, B, PSK)), [1, 0])

    def test_answers_are_a_list_of_whole_numbers(self):
        talk = Talk()
        talk.settle()
        for calls in (known_calls(), flat(talk.a.calls), flat(talk.b.calls)):
            given = answers(calls)
            self.assertIs(type(given), list)
            self.assertEqual({type(number) for number in given}, {int})


class LeftAloneTest(EndCase):
    def test_what_is_handed_in_is_the_same_afterwards(self):
        calls = known_calls()
        answers(calls)
        self.assertEqual(calls, known_calls())

    def test_it_is_not_changed_for_a_while_either(self):
        self.assertEqual(answers(Untouchable(known_calls())), KNOWN_ANSWERS)
        talk = Talk()
        talk.settle()
        self.assertEqual(taken_apart(answers(Untouchable(flat(talk.b.calls)))), talk.b.expected)

    def test_the_answers_are_a_list_of_their_own(self):
        calls = known_calls()
        given = answers(calls)
        given.clear()
        self.assertEqual(answers(calls), KNOWN_ANSWERS)

    def test_the_same_list_asked_twice(self):
        calls = known_calls()
        self.assertEqual(answers(calls), answers(calls))

    def test_nothing_is_kept_for_another_list(self):
        talk = Talk()
        talk.settle()
        lists = [flat(talk.a.calls), flat(talk.b.calls), known_calls()]
        alone = [answers(calls) for calls in lists]
        for turn in range(2):
            self.assertEqual([answers(calls) for calls in reversed(lists)], alone[::-1])
        self.assertEqual(run([call_open(SECRET_B, PUB(SECRET_A), PSK), call_send(b"x")])[1], [-3])

    def test_it_prints_reads_and_imports_nothing(self):
        def forbidden(*args, **kwargs):
            raise AssertionError("asked for from outside")

        out, err = io.StringIO(), io.StringIO()
        with contextlib.redirect_stdout(out), contextlib.redirect_stderr(err):
            with mock.patch.object(builtins, "open", forbidden), mock.patch.object(builtins, "input", forbidden), \
                    mock.patch.object(builtins, "__import__", forbidden):
                given = answers(known_calls())
        self.assertEqual(given, KNOWN_ANSWERS)
        self.assertEqual((out.getvalue(), err.getvalue()), ("", ""))

    def test_errors_keep_nothing(self):
        with self.assertRaises(Exception):
            answers([9])
        self.assertEqual(answers(known_calls()), KNOWN_ANSWERS)


class SizeTest(EndCase):
    def opened(self):
        talk = Talk()
        talk.shake()
        return talk

    def test_d_of_29000_bytes(self):
        talk = self.opened()
        d = some("long", 29000)
        self.assertEqual(talk.a.send(d)[0], 29008 + 32)
        self.assertLessEqual(len(flat(talk.a.calls)), 30000)
        self.check(talk.a)

    def test_m_of_29000_bytes(self):
        side = Side()
        side.open(SECRET_A, B, PSK)
        for first in (1, 2):
            side.take(bytes([first]) + bytes(13999))
        self.check(side)
        for first in (0, 1, 2, 4, 255):
            m = bytes([first]) + some("long", 28999)
            self.assertEqual(run([call_open(SECRET_A, B, PSK), call_take(0, some("f"), m)]), [[0], [0]])

    def test_the_longest_packet_that_a_list_has_room_for(self):
        talk = self.opened()
        session = talk.a.model.current
        d = some("long", 28960)
        m = make_packet(session.in_key, session.mine, 3, d)
        self.assertEqual(len(m), 28992)
        self.assertEqual(talk.a.take(m), [4, *d])
        self.assertLessEqual(len(flat(talk.a.calls)), 30000)
        self.check(talk.a)

    def test_three_hundred_calls(self):
        talk = self.opened()
        while len(talk.a.calls) < 300:
            n = len(talk.a.calls)
            talk.a.send(some(n, n % 40))
        self.assertLessEqual(len(flat(talk.a.calls)), 30000)
        self.check(talk.a)

    def test_three_hundred_times_open(self):
        calls = [call_open(SECRET_A, B if turn % 2 else bytes(32), PSK) for turn in range(297)]
        self.assertEqual(run(calls), [[0] if turn % 2 else [-2] for turn in range(297)])

    def test_three_hundred_packets(self):
        talk = self.opened()
        session = talk.a.model.current
        while len(talk.a.calls) < 300:
            n = len(talk.a.calls) * 7 % 150
            talk.a.take(make_packet(session.in_key, session.mine, n, b""))
        self.assertLessEqual(len(flat(talk.a.calls)), 30000)
        self.check(talk.a)

    def test_a_hundred_and_more_first_messages(self):
        talk = Talk()
        for n in range(120):
            self.assertEqual(talk.b.take(talk.first(n), n, some(("f", n)))[0], 1)
        self.assertLessEqual(len(flat(talk.b.calls)), 30000)
        self.check(talk.b)

    def test_no_deep_calls(self):
        talk = self.opened()
        talk.a.send(some("long", 29000))
        depth = len(inspect.stack())
        before = sys.getrecursionlimit()
        sys.setrecursionlimit(depth + 40)
        try:
            given = answers(flat(talk.a.calls))
        finally:
            sys.setrecursionlimit(before)
        self.assertEqual(taken_apart(given), talk.a.expected)


class PackageTest(unittest.TestCase):
    def test_what_the_desk_needs_is_the_package_alone(self):
        program = ("import sys; before = set(sys.modules); import twoends.desk; "
                   "print(sorted(m for m in set(sys.modules) - before if not m.startswith('twoends')))")
        given = subprocess.run([sys.executable, "-S", "-c", program], capture_output=True, text=True, check=True)
        self.assertEqual(given.stdout, "[]\n")
