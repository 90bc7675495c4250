"""Texts of states and scripts: [90]."""

import unittest

from hoproads.errors import InvalidScript, InvalidState, InvalidText
from hoproads.lifetexts import read_script, read_state, script_text, state_text
from tests.lives import NO_SCRIPTS, NO_STATES, STATES, STEPS, TWELVE, V, some_lives
from tests.support import BIG, R, S, STRAYS, check_arguments, check_error

W = (("put", 2, 1, 8), ("mirror",), ("rates", R))
TEXT = "010\n5 7 9\n1\n1/2 2/3 1/3"
LIVES = some_lives(30, 30) + [(V, ()), (V, W), (V, tuple(STEPS[:30])), (V, tuple(STEPS[30:]))]

NO_TEXTS = [value for value in STRAYS if value != ""]


def rates_told(rates):
    return " ".join(str(top) + "/" + str(below) for top, below in rates)


def state_told(state):
    row, marks, place, rates = state
    return "".join(map(str, row)) + "\n" + " ".join(map(str, marks)) + "\n" + str(place) + "\n" + rates_told(rates)


def step_told(step):
    if step[0] == "rates":
        return "rates " + rates_told(step[1])
    return " ".join([step[0]] + [str(item) for item in step[1:]])


def bent(text):
    """Texts that differ from a text by a sign or two: put in, left out, or another one."""
    found = set()
    for at in range(len(text) + 1):
        for sign in (" ", "\n", "0", "1", "9", "-", "+", "/", "_", ".", "a", "\r", "\t", "''", "  ", "\n\n"):
            found.add(text[:at] + sign + text[at:])
            found.add(text[:at] + sign + text[at + 1:])
        found.add(text[:at] + text[at + 1:])
        found.add(text[:at] + text[at + 2:])
        found.add(text[:at])
        found.add(text[at:])
    return sorted(found - {text})


class Texts(unittest.TestCase):
    def test_states(self):
        for state in STATES:
            self.assertEqual(state_text(state), state_told(state))
            self.assertEqual(read_state(state_told(state)), state)

    def test_scripts(self):
        for _, script in LIVES:
            told = "\n".join(step_told(step) for step in script)
            self.assertEqual(script_text(script), told)
            self.assertEqual(read_script(told), script)
        self.assertEqual(script_text(()), "")
        self.assertEqual(read_script(""), ())

    def test_31_steps(self):
        self.assertEqual(read_script("\n".join(["mirror"] * 30)), (("mirror",),) * 30)
        check_error(self, InvalidText, read_script, ("\n".join(["mirror"] * 31),))

    def test_each_step_alone(self):
        for step in STEPS:
            self.assertEqual(read_script(step_told(step)), (step,))
            self.assertEqual(script_text((step,)), step_told(step))


class Bent(unittest.TestCase):
    def check_bent(self, text, read, write):
        """Each bent text is that of the very thing that is read from it, or of none."""
        none = 0
        for other in bent(text):
            try:
                found = read(other)
            except InvalidText:
                none += 1
            else:
                self.assertEqual(write(found), other)
        self.assertGreater(none, len(text))

    def test_states(self):
        for state in (V, TWELVE, STATES[1]):
            self.check_bent(state_told(state), read_state, state_told)

    def test_scripts(self):
        for script in (W, (("on", 11), ("in", 99)), (("shorter",),), (("longer", 1, 20), ("watch", 0))):
            self.check_bent(script_text(script), read_script, script_text)

    def test_texts_of_states_that_are_none(self):
        for other in (TEXT + "\n", "\n" + TEXT, TEXT + " ", " " + TEXT, TEXT.replace("\n", "\r\n"), TEXT.replace("5 7", "05 7"),
                      TEXT.replace("5 7", "5  7"), TEXT.replace("5 7", "+5 7"), TEXT.replace("5 7", "5\t7"), TEXT.replace("010", "0 1 0"),
                      TEXT.replace("010", "012"), TEXT.replace("010", "01"), TEXT.replace("\n1\n", "\n01\n"),
                      TEXT.replace("\n1\n", "\n3\n"), TEXT.replace("\n1\n", "\n-1\n"), TEXT.replace("1/2", "2/4"),
                      TEXT.replace("1/2", "1/02"), TEXT.replace("1/2", "1"), TEXT.replace("1/2", "1/2/1"), TEXT.replace("1/2", "1 /2"),
                      TEXT.replace("1/2", "0/1"), TEXT.replace("1/2", "1/0"), TEXT.replace("1/3", "-1/3"), TEXT.replace("1/3", ""),
                      TEXT.replace("1/2", "1001/1"), TEXT.replace("5", "100"), TEXT.replace("5", "1" * 900), TEXT.replace(" 1/3", ""),
                      TEXT.replace("2/3", "2/3 1/1"), "\n\n\n", "0\n0\n0\n", "0\n\n0\n1/1 1/1 0/1", "\n\n0\n1/1 1/1 0/1",
                      "0\n0\n0\n1/1 1/1 0/1\n", "0" * 13 + "\n" + "0 " * 12 + "0\n0\n1/1 1/1 0/1", TEXT.replace("\n", " "), TEXT.upper() + "A",
                      TEXT.replace("/", "\\"), TEXT.replace("0", "O"), "5_0", TEXT.replace("7", "7_0"), TEXT + "\n" + TEXT):
            check_error(self, InvalidText, read_state, (other,))
        self.assertEqual(read_state("0\n0\n0\n1/1 1/1 0/1"), ((0,), (0,), 0, R))

    def test_texts_of_scripts_that_are_none(self):
        for other in (" ", "\n", "mirror ", " mirror", "mirror\n", "\nmirror", "mirror\n\nmirror", "mirror 0", "Mirror", "mirror\r",
                      "on", "on ", "on  1", "on 01", "on 12", "on -1", "on +1", "on 1 ", "on 1 1", "on a", "on 1_0", "on\t1", "on\n1",
                      "in 100", "in 007", "out", "put 0 0", "put 0 2 0", "put 0 0 0 0", "put 00 0 0", "longer 1", "longer 2 0",
                      "watch", "watch 12", "shorter 1", "rates", "rates ", "rates 1/1 1/1", "rates 1/1 1/1 0/1 0/1", "rates 1/1 1/1 0/2",
                      "rates  1/1 1/1 0/1", "rates 1/1 1/1 0/1 ", "rates 1 1 0", "rates 0/1 1/1 0/1", "rates 1/1  1/1 0/1",
                      "rates 1001/1 1/1 0/1", "back", "back 0,", "('on', 1)", "on 1;on 2", "on 1,", "step 1", "x" * 1000,
                      "on " + "1" * 990, "in " + "0" * 990):
            check_error(self, InvalidText, read_script, (other,))

    def test_values_that_are_no_strings(self):
        for value in STRAYS + [TEXT.encode(), [TEXT], (TEXT,), BIG]:
            if value != "":
                check_error(self, InvalidText, read_state, (value,))
                check_error(self, InvalidText, read_script, (value,))
        check_error(self, InvalidText, read_state, ("",))


class Wrong(unittest.TestCase):
    def test_errors(self):
        check_arguments(self, state_text, (V, InvalidState, NO_STATES))
        check_arguments(self, script_text, (W, InvalidScript, NO_SCRIPTS))
        check_arguments(self, read_state, (TEXT, InvalidText, NO_TEXTS + [""]))
        check_arguments(self, read_script, ("rates 1/2 2/3 1/3", InvalidText, NO_TEXTS))
        self.assertEqual(read_script("rates 1/2 2/3 1/3"), (("rates", S),))


if __name__ == "__main__":
    unittest.main()
