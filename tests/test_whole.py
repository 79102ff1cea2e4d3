"""What holds over the whole program: the interface, and that each call stands by itself."""

import inspect
import json
import pathlib
import subprocess
import sys
import time
import unittest

from letterfall import page
from tests.helper import FULL, HEAD, ONE, bytes_of, codes

TOP = pathlib.Path(__file__).resolve().parent.parent

INTERFACE = {
    "font": "face",
    "letter": "k face",
    "char": "c face",
    "levels": "side text",
    "order": "side text",
    "shape": "size side start to face text",
    "breaks": "text",
    "cover": "size number x y k left top wide high face",
    "box": "size number k face",
}

# What each argument may be at its least and its greatest, face and text aside.
SIGNED = ("x", "y", "left", "top")

TEXT = codes("L R A N M O LI R PI FI A L B R O") + [40, 41, 45, 97, 32, 12354]

# An ordinary right value of each argument.
ORDINARY = {"face": bytes_of(FULL), "text": TEXT, "k": 2, "c": 97, "side": 2, "size": 640, "start": 1, "to": 13,
            "number": 2, "x": 5, "y": -6, "left": -1, "top": -2, "wide": 3, "high": 4}

CALLS = []
for name, words in INTERFACE.items():
    CALLS.append((name, [ORDINARY[word] for word in words.split()]))
    for place, word in enumerate(words.split()):
        others = {"face": [[], bytes_of(HEAD), bytes_of(ONE), bytes_of("wrong\n")], "text": [[], [10], [55296], [97]]}
        for value in others.get(word, [0, 1, 3, 70000]):
            arguments = [ORDINARY[other] for other in words.split()]
            arguments[place] = value
            CALLS.append((name, arguments))

ALONE = """
import json
import sys
before = set(sys.modules)
from letterfall import page
print(json.dumps(sorted(name for name in set(sys.modules) - before if name.split(".")[0] != "letterfall")))
calls = json.loads(sys.stdin.read())
seen = []
watching = False
def watch(event, told):
    if watching:
        seen.append(event)
sys.addaudithook(watch)
depth = 40
sys.setrecursionlimit(depth)
watching = True
answers = [getattr(page, name)(*arguments) for name, arguments in calls]
watching = False
sys.setrecursionlimit(1000)
print(json.dumps([event for event in seen if not event.startswith("object.") and event != "sys.setrecursionlimit"]))
print(json.dumps(sorted(name for name in set(sys.modules) - before if name.split(".")[0] != "letterfall")))
print(json.dumps(answers))
"""


class Guarded(list):
    """A list that may not be changed."""

    def refuse(self, *told):
        raise AssertionError("a list that was handed in is changed")

    append = extend = insert = pop = remove = clear = sort = reverse = refuse
    __setitem__ = __delitem__ = __iadd__ = __imul__ = refuse


def answer_of(call):
    return getattr(page, call[0])(*call[1])


class Interface(unittest.TestCase):
    def test_names_and_arguments(self):
        for name, words in INTERFACE.items():
            found = inspect.signature(getattr(page, name)).parameters
            self.assertEqual(list(found), words.split())
            for parameter in found.values():
                self.assertIs(parameter.kind, parameter.POSITIONAL_OR_KEYWORD)
                self.assertIs(parameter.default, parameter.empty)

    def test_by_name_too(self):
        for name, words in INTERFACE.items():
            told = {word: ORDINARY[word] for word in words.split()}
            self.assertEqual(getattr(page, name)(**told), answer_of((name, list(told.values()))))

    def check(self, call):
        begun = time.monotonic()
        answer = answer_of(call)
        self.assertLess(time.monotonic() - begun, 20)
        self.assertIs(type(answer), list)
        self.assertEqual({type(number) for number in answer}, {int})
        if answer[0] < 0:
            self.assertEqual(len(answer), 1)
        return answer

    def test_ordinary(self):
        for name, words in INTERFACE.items():
            self.assertGreaterEqual(self.check((name, [ORDINARY[word] for word in words.split()]))[0], 0)

    def test_least_and_greatest_numbers(self):
        for name, words in INTERFACE.items():
            for place, word in enumerate(words.split()):
                if word in ("face", "text"):
                    continue
                for value in (-2 ** 31, 2 ** 31 - 1) if word in SIGNED else (0, 2 ** 32 - 1):
                    arguments = [ORDINARY[other] for other in words.split()]
                    arguments[place] = value
                    self.check((name, arguments))

    def test_all_at_their_least_and_at_their_greatest(self):
        for name, words in INTERFACE.items():
            least, greatest = [], []
            for word in words.split():
                if word in ("face", "text"):
                    least.append([])
                    greatest.append([255] * 100000 if word == "face" else [2 ** 32 - 1] * 30000)
                else:
                    least.append(-2 ** 31 if word in SIGNED else 0)
                    greatest.append(2 ** 31 - 1 if word in SIGNED else 2 ** 32 - 1)
            self.check((name, least))
            self.check((name, greatest))

    def test_least_and_greatest_fonts_and_texts(self):
        fonts = [[], [0], [255] * 100000, [0] * 100000, [10] * 100000, [32] * 100000, [97] * 100000]
        fonts.append(bytes_of(ONE + "char 97 a\n" + "move 0 0\n" * 1024 + "pair a a 0"))
        texts = [[], [0] * 30000, [2 ** 32 - 1], [2 ** 32 - 1] * 30000, [1114111] * 30000, [10] * 30000]
        for name, words in INTERFACE.items():
            for place, word in enumerate(words.split()):
                for value in fonts if word == "face" else texts if word == "text" else []:
                    arguments = [ORDINARY[other] for other in words.split()]
                    arguments[place] = value
                    self.check((name, arguments))

    def test_a_whole_face(self):
        face = bytes_of(HEAD + "letter a 500\nchar 97 a\n" + "move -9 -9\ncurve 10 700 450 0\n" * 512)
        face += bytes_of("".join([f"char {code} a\n" for code in range(1000, 6500)]))
        self.assertLess(len(face), 100000)
        for name, words in INTERFACE.items():
            told = dict(ORDINARY, face=face, number=0, k=4 if name != "letter" else 0, side=1, wide=64, high=64)
            self.assertGreaterEqual(self.check((name, [told[word] for word in words.split()]))[0], 0)


class ByItself(unittest.TestCase):
    def test_what_is_handed_in_is_never_changed(self):
        for name, arguments in CALLS:
            wanted = answer_of((name, arguments))
            kept = json.dumps(arguments)
            guarded = [Guarded(one) if isinstance(one, list) else one for one in arguments]
            self.assertEqual(answer_of((name, guarded)), wanted)
            self.assertEqual(json.dumps(guarded), kept)
            self.assertEqual(json.dumps(arguments), kept)

    def test_the_same_at_any_time(self):
        first = [answer_of(call) for call in CALLS]
        backwards = [answer_of(call) for call in CALLS[::-1]][::-1]
        self.assertEqual(backwards, first)
        step = 37
        for place in range(len(CALLS)):
            other = place * step % len(CALLS)
            self.assertEqual(answer_of(CALLS[other]), first[other])

    def test_answers_are_the_callers_own(self):
        for call in CALLS:
            answer = answer_of(call)
            kept = list(answer)
            answer.reverse()
            answer.append(0)
            self.assertEqual(answer_of(call), kept)

    def test_nothing_is_printed_read_or_imported(self):
        told = json.dumps(CALLS)
        ran = subprocess.run([sys.executable, "-S", "-B", "-c", ALONE], input=told, capture_output=True, text=True,
                             cwd=TOP, check=False)
        self.assertEqual(ran.stderr, "")
        lines = ran.stdout.splitlines()
        self.assertEqual(len(lines), 4)
        self.assertEqual(json.loads(lines[0]), [])
        self.assertEqual(json.loads(lines[1]), [])
        self.assertEqual(json.loads(lines[2]), [])
        # The answers of a program that has just begun are those of one that has run for long.
        self.assertEqual(json.loads(lines[3]), [answer_of(call) for call in CALLS])


class Refusals(unittest.TestCase):
    def test_the_order_of_the_refusals(self):
        wrong_face = bytes_of(ONE + "wrong\nwrong\n")
        for name in ("letter", "cover", "box"):
            words = INTERFACE[name].split()
            number = "k" if name == "letter" else "number"
            beyond = dict(ORDINARY, **{number: 99})
            self.assertEqual(getattr(page, name)(*[beyond[word] for word in words]), [-5])
            # -2 less the wrong line, here the third, is -5 too: so another font, wrong in its first line.
            beyond["face"] = bytes_of("wrong\n")
            self.assertEqual(getattr(page, name)(*[beyond[word] for word in words]), [-3])
            beyond["face"] = wrong_face + [256]
            self.assertEqual(getattr(page, name)(*[beyond[word] for word in words]), [-8])


if __name__ == "__main__":
    unittest.main()
