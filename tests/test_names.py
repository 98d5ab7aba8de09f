import random
import unittest

from portage.errors import NotAllowed
from portage.names import object_text, process_text, read_object, read_process

PROCESSES = {
    "p": (), "p.0": (0,), "p.0.2": (0, 2), "p.10": (10,), "p.9999": (9999,), "p.1.2.3.4.5.6.7.8": (1, 2, 3, 4, 5, 6, 7, 8),
    "p.0.0.0": (0, 0, 0), "p.9999.0.9999": (9999, 0, 9999),
}
NO_NUMBERS = ("", "00", "01", "0123", "10000", "99999", "123456", "1" * 13, "1" * 14, "1" * 40, "-1", "-0", "+1", "a", "1a", "a1",
              " 1", "1 ", "1_0", "0x1", "1,2", "one", "\n1", "1\n", "p", "\u0663", "\u00b2")


class Texts(unittest.TestCase):
    def test_processes(self):
        for text, process in PROCESSES.items():
            self.assertEqual(process_text(process), text)
            self.assertEqual(read_process(text), process)

    def test_objects(self):
        self.assertEqual((object_text(((0,), 3)), read_object("p.0#3")), ("p.0#3", ((0,), 3)))
        for text, process in PROCESSES.items():
            for k in (0, 7, 9999):
                self.assertEqual(object_text((process, k)), f"{text}#{k}")
                self.assertEqual(read_object(f"{text}#{k}"), (process, k))

    def test_great_integers(self):
        self.assertEqual(process_text((10000, 10 ** 12, 10 ** 15)), "p.10000.1000000000000.1000000000000000")
        self.assertEqual(object_text(((10000,), 10 ** 12)), "p.10000#1000000000000")
        for text in ("p.10000", "p.0.10000.1", "p.1000000000000"):
            self.refuse(read_process, text)
            self.refuse(read_object, text + "#1")
        for text in ("p#10000", "p.1#99999", "p#1000000000000"):
            self.refuse(read_object, text)

    def test_drawn_names(self):
        chance = random.Random(7)
        for _ in range(300):
            process = tuple([chance.choice([0, 1, 9, 10, 99, 100, 1000, 9999]) for _ in range(chance.randrange(6))])
            name = (process, chance.randrange(10000))
            self.assertEqual(read_process(process_text(process)), process)
            self.assertEqual(read_object(object_text(name)), name)

    def refuse(self, function, text):
        with self.assertRaises(NotAllowed, msg=repr(text)):
            function(text)


class NoNames(unittest.TestCase):
    def refuse(self, function, *texts):
        for text in texts:
            with self.assertRaises(NotAllowed, msg=repr(text)):
                function(text)

    def test_no_processes(self):
        self.refuse(read_process, "", " ", "P", "q", "pp", "p ", " p", "p\n", "p.", ".", ".0", "0", "p0", "p..0", "p.0.", "p 0", "p. 0",
                    "p.0 .1", "P.0", "p,0", "p.0,1", "p#0", "p.0#3", "p-1", "nil", "()", "(0,)", "p/0", "p:0", "p.0p", "p.p")
        for number in NO_NUMBERS:
            self.refuse(read_process, f"p.{number}", f"p.0.{number}", f"p.{number}.0")

    def test_no_objects(self):
        self.refuse(read_object, "", "p", "p.0", "#", "#0", "p#", "p.0#", ".0#3", "p.#3", "p.0.#3", "p..0#3", "P#0", "q#0", "p##0",
                    "p#0#0", "p#0#", "p #0", "p# 0", "p#0 ", " p#0", "p#0\n", "p#-1", "p#+1", "p.0#3.1", "p-0", "p.0.3", "0#3", "nil",
                    "p#p", "p#nil", "pp#0", "p.0 #3")
        for number in NO_NUMBERS:
            self.refuse(read_object, f"p#{number}", f"p.0#{number}", f"p.{number}#0", f"p.0.{number}#0")

    def test_spoilt_texts(self):
        """One sign left out, put in or changed: read as another name, which has this very text, or not at all."""
        refused = 0
        for text in ("p.0.27#3", "p#10", "p.999#0", "p.1.20.3", "p"):
            for at in range(len(text) + 1):
                spoilt = [text[:at] + sign + text[at:] for sign in "p.#0 19-a"]
                spoilt += [text[:at] + sign + text[at + 1:] for sign in "p.#0 19-a"] + [text[:at] + text[at + 1:]]
                for one in spoilt:
                    for read, write in ((read_process, process_text), (read_object, object_text)):
                        try:
                            self.assertEqual(write(read(one)), one)
                        except NotAllowed:
                            refused += 1
        self.assertGreater(refused, 100)


if __name__ == "__main__":
    unittest.main()
