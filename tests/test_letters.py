import unittest

from portage import letters
from portage.errors import NotAllowed
from portage.letters import count_of, is_on_the_way, is_working, object_of, with_count

NAME = ((0, 2), 5)
OTHER = ((), 0)
CALL = ("call", NAME, 4, (1,), 2, OTHER, "get", (1, ("nil",)), (3, 0))
RETURN = ("return", NAME, -1, (1,), 0, ("ref", OTHER), (3, 0))
PLEASE = ("please", NAME, 0, 2)
CARRY = ("carry", ((NAME, "M", (), (), 1),))
AT = ("at", NAME, 1, 7)
STOP = ("stop", 4, 1)
TOLD = ("told", 4, 1, 2, ((), (), (0, 0), (0, 0)))
DROP = ("drop", 4, (NAME,))
ACK = ("ack", 3, (5, 7))
WAY = (CALL, RETURN, PLEASE)
ALL = WAY + (CARRY, AT, STOP, TOLD, DROP, ACK)


class Bodies(unittest.TestCase):
    def test_constants(self):
        self.assertEqual(letters.WORKING, ("call", "return", "please", "carry", "at"))
        self.assertEqual(letters.ON_THE_WAY, ("call", "return", "please"))

    def test_is_working(self):
        for body in ALL:
            self.assertIs(is_working(body), body in (CALL, RETURN, PLEASE, CARRY, AT), body)

    def test_is_on_the_way(self):
        for body in ALL:
            self.assertIs(is_on_the_way(body), body in WAY, body)

    def test_object_of(self):
        for body in ALL:
            if body in WAY or body == AT:
                self.assertEqual(object_of(body), NAME)
            else:
                with self.assertRaises(NotAllowed, msg=body):
                    object_of(body)

    def test_count_of(self):
        self.assertEqual([count_of(body) for body in WAY], [4, -1, 0])
        for body in ALL[3:]:
            with self.assertRaises(NotAllowed, msg=body):
                count_of(body)

    def test_with_count(self):
        for count in (-1, 0, 9):
            self.assertEqual(with_count(CALL, count), ("call", NAME, count, (1,), 2, OTHER, "get", (1, ("nil",)), (3, 0)))
            self.assertEqual(with_count(RETURN, count), ("return", NAME, count, (1,), 0, ("ref", OTHER), (3, 0)))
            self.assertEqual(with_count(PLEASE, count), ("please", NAME, count, 2))
            for body in ALL[3:]:
                with self.assertRaises(NotAllowed, msg=body):
                    with_count(body, count)


if __name__ == "__main__":
    unittest.main()
