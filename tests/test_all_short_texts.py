"""Points 8 and 9 against a second reader, which follows the words of the document sign by sign.

It keeps for each place the rules of a grammar that can be under way there (Earley's algorithm). So it tells for
each text whether it is one of [8], or the beginning of one, without any knowledge of how the program reads.
"""

import random
import unittest

from formatfit.errors import BadValue, EndError, SignError
from formatfit.value_text import format_value, parse_value

SIGNS = '01-a"[]{}(),: '

# Capital letters are rules, everything else stands for itself; S is any number of spaces.
GRAMMAR = {
    "V": ["SI", "SQ", "S[SE", "S{SF", "SNS(VS)S"],
    "S": ["", " S"],
    "I": ["0S", "PS", "-PS"],
    "P": ["1", "P0", "P1"],
    "Q": ['"L"S'],
    "L": ["", "aL"],
    "N": ["a", "Na", "N0", "N1"],
    "E": ["]S", "VX"],
    "X": ["]S", ",VX"],
    "F": ["}S", "SNS:VY"],
    "Y": ["}S", ",SNS:VY"],
}


def completed(states, place):
    """States with all that follows from them without a further sign."""
    found = set(states[place])
    waiting = list(found)
    while waiting:
        rule, body, at, start = waiting.pop()
        if at < len(body) and body[at] in GRAMMAR:
            fresh = [(body[at], other, 0, place) for other in GRAMMAR[body[at]]]
            # A rule that can be empty may have been ended here already.
            if any(state[0] == body[at] and state[2] == len(state[1]) and state[3] == place for state in found):
                fresh.append((rule, body, at + 1, start))
        elif at == len(body):
            earlier = found if start == place else states[start]
            fresh = [
                (other, words, reach + 1, begin) for other, words, reach, begin in earlier
                if reach < len(words) and words[reach] == rule
            ]
        else:
            fresh = []
        for state in fresh:
            if state not in found:
                found.add(state)
                waiting.append(state)
    return found


def begun():
    states = [{("V", body, 0, 0) for body in GRAMMAR["V"]}]
    states[0] = completed(states, 0)
    return states


def with_sign(states, sign):
    """The states behind one more sign, or None if no text goes on with it."""
    moved = {(rule, body, at + 1, start) for rule, body, at, start in states[-1] if body[at:at + 1] == sign}
    if not moved:
        return None
    longer = states + [moved]
    longer[-1] = completed(longer, len(longer) - 1)
    return longer


def is_whole(states):
    return any(rule == "V" and at == len(body) and start == 0 for rule, body, at, start in states[-1])


def answer(text):
    """What the program makes of a text."""
    try:
        return ("value", parse_value(text))
    except SignError as error:
        return ("sign", error.place)
    except EndError:
        return ("end",)
    except BadValue:
        return ("bad",)


class Texts(unittest.TestCase):
    def check(self, text, states):
        told = answer(text)
        if is_whole(states):
            self.assertIn(told[0], ("value", "bad"), text)
            if told[0] == "value":
                self.assertEqual(format_value(told[1]).replace(" ", ""), text.replace(" ", ""))
        else:
            self.assertEqual(told, ("end",), text)

    def follow(self, text, states, longest):
        self.check(text, states)
        for sign in SIGNS:
            longer = with_sign(states, sign)
            if longer is None:
                self.assertEqual(answer(text + sign), ("sign", len(text)), text + sign)
            elif len(text) < longest:
                self.follow(text + sign, longer, longest)

    def test_all_short_texts(self):
        self.follow("", begun(), 4)

    def test_longer_texts(self):
        chance = random.Random(11)
        for _ in range(150):
            text = ""
            states = begun()
            while states is not None and len(text) < 25:
                self.check(text, states)
                signs = [sign for sign in SIGNS if with_sign(states, sign) is not None]
                for sign in SIGNS:
                    if sign not in signs:
                        self.assertEqual(answer(text + sign), ("sign", len(text)), text + sign)
                text += chance.choice(signs)
                states = with_sign(states, text[-1])


if __name__ == "__main__":
    unittest.main()
