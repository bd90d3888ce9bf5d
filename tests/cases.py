"""What the tests of all parts need to look at errors."""

import copy
import unittest


class Case(unittest.TestCase):
    def raises(self, error, attribute, expected, call, *args, **named):
        """The call raises just this error, whose attribute holds the value itself."""
        try:
            got = call(*args, **named)
        except Exception as caught:
            self.assertIs(caught.__class__, error, (args, named))
            if attribute is not None:
                held = getattr(caught, attribute)
                self.assertTrue(held is expected or (held == expected and held.__class__ is expected.__class__),
                                (held, expected))
        else:
            self.fail(f"{call.__name__}{args}{named} gave {got!r} in the place of {error.__name__}")

    def check_errors(self, call, parameters):
        """parameters: (name, right value, wrong ones). Whatever comes behind a wrong one is wrong, too."""
        names = [name for name, _, _ in parameters]
        rights = [right for _, right, _ in parameters]
        worst = [wrongs[0][0] if wrongs else None for _, _, wrongs in parameters]
        call(*rights)
        call(**dict(zip(names, rights)))
        for at, (_, _, wrongs) in enumerate(parameters):
            for bad, error, attribute, expected in wrongs:
                for behind in (rights[at + 1:], worst[at + 1:]):
                    args = [*rights[:at], bad, *behind]
                    self.raises(error, attribute, expected, call, *args)
                    self.raises(error, attribute, expected, call, **dict(zip(names, args)))

    def unaltered(self, call, *args):
        """The call leaves what it is passed as it was, and answers the same once more."""
        texts = [str(arg) for arg in args]
        kept = copy.deepcopy([arg for arg in args if isinstance(arg, tuple)])
        first = call(*args)
        self.assertEqual(first, call(*args))
        self.assertEqual(texts, [str(arg) for arg in args])
        self.assertEqual(kept, [arg for arg in args if isinstance(arg, tuple)])
        return first
