"""How the tests ask a function: by place and by name, in several orders, and again."""

import unittest

from tests.things import Kept


def ways_to_ask(asked, given):
    """Calls of a function; given has its arguments by their names, in the interface's order."""
    names = list(given)
    back = {name: given[name] for name in reversed(names)}
    rest = {name: given[name] for name in names[1:]}
    return (
        lambda: asked(*given.values()),
        lambda: asked(**given),
        lambda: asked(**back),
        lambda: asked(given[names[0]], **rest),
        lambda: asked(*given.values()),
    )


class Asking(unittest.TestCase):
    def answer(self, asked, **given):
        """What the function told, the same however and whenever it is asked; nothing handed in is changed."""
        kept = Kept(given)
        told = [way() for way in ways_to_ask(asked, given)]
        self.assertTrue(kept.holds(), asked.__name__)
        # By their reprs, as True == 1 and 1 == 1.0 to Python.
        self.assertEqual([repr(each) for each in told], [repr(told[0])] * len(told), asked.__name__)
        return told[0]

    def refusal(self, asked, **given):
        """The very class of the error, the same however and whenever it is asked; nothing handed in is changed."""
        kept = Kept(given)
        classes = []
        for way in ways_to_ask(asked, given):
            with self.assertRaises(ValueError) as caught:
                way()
            classes.append(type(caught.exception))
        self.assertTrue(kept.holds(), asked.__name__)
        self.assertEqual(classes, classes[:1] * len(classes))
        return classes[0]

    def check_refused(self, asked, rights, wrongs):
        """Refusals of each argument alone, of each two, and of all.

        rights has tuples of right arguments, in the interface's order; wrongs has, by each argument's name in that
        order, the class that is due and things that are refused: none where it may be anything.
        """
        names = list(wrongs)
        for right in rights:
            good = dict(zip(names, right, strict=True))
            self.answer(asked, **good)
            for at, name in enumerate(names):
                due, things = wrongs[name]
                for thing in things:
                    with self.subTest(asked=asked.__name__, name=name, thing=repr(thing)[:200]):
                        self.assertIs(self.refusal(asked, **{**good, name: thing}), due)
                self.check_first(asked, good, wrongs, names[at:])

    def check_first(self, asked, good, wrongs, names):
        """The first of these names is wrong, and with it each one behind it, and all of them: its class is due."""
        first, *others = names
        due, things = wrongs[first]
        behind = [name for name in others if wrongs[name][1]]
        every = {name: wrongs[name][1][0] for name in behind}
        for at, thing in enumerate(things):
            alone = {name: wrongs[name][1][at % len(wrongs[name][1])] for name in behind}
            for also in [*[{name: alone[name]} for name in behind], every]:
                with self.subTest(asked=asked.__name__, first=first, thing=repr(thing)[:200], also=list(also)):
                    self.assertIs(self.refusal(asked, **{**good, **also, first: thing}), due)


class AskAnything(Asking):
    def tell(self, asked, thing, due, **given):
        """Whether a thing is one, behind the other arguments."""
        with self.subTest(asked=asked.__name__, thing=repr(thing)[:200]):
            self.assertIs(self.answer(asked, **given, thing=thing), due)
