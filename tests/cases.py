"""What the tests of all parts need to look at errors."""

import copy
import unittest

from samples import APART, APART_AND_LOOPED, LOOPED, wrong_webs
from webreckon.errors import Apart, Looped


class Case(unittest.TestCase):
    def raises(self, error, attribute, expected, call, *args, **named):
        """The call raises just this error, whose attribute holds the value itself."""
        try:
            got = call(*args, **named)
        except Exception as caught:
            self.assertIs(caught.__class__, error, (args, named))
            if attribute is not None:
                held = getattr(caught, attribute)
                self.assertTrue(held is expected or (held == expected and held.__class__ is expected.__class__),
                                (held, expected))
        else:
            self.fail(f"{call.__name__}{args}{named} gave {repr(got)[:200]} in the place of {error.__name__}")

    def check_errors(self, call, parameters):
        """parameters: (name, right value, wrong ones). Whatever comes behind a wrong one is wrong, too."""
        names = [name for name, _, _ in parameters]
        rights = [right for _, right, _ in parameters]
        worst = [wrongs[0][0] if wrongs else None for _, _, wrongs in parameters]
        call(*rights)
        call(**dict(zip(names, rights)))
        for at, (_, _, wrongs) in enumerate(parameters):
            for bad, error, attribute, expected in wrongs:
                for behind in (rights[at + 1:], worst[at + 1:]):
                    args = [*rights[:at], bad, *behind]
                    self.raises(error, attribute, expected, call, *args)
                    self.raises(error, attribute, expected, call, **dict(zip(names, args)))

    def check_heap_errors(self, call, web, parameters_for):
        """parameters_for(web): those behind the web. Apart, then Looped, come behind all their errors."""
        self.check_errors(call, [("web", web, wrong_webs()), *parameters_for(web)])
        for bad_web, error in ((APART, Apart), (LOOPED, Looped), (APART_AND_LOOPED, Apart)):
            parameters = parameters_for(bad_web)
            rights = [right for _, right, _ in parameters]
            self.raises(error, None, None, call, bad_web, *rights)
            self.raises(error, None, None, call, web=bad_web, **{name: right for name, right, _ in parameters})
            for at, (_, _, wrongs) in enumerate(parameters):
                for bad, own_error, attribute, expected in wrongs:
                    args = [*rights[:at], bad, *rights[at + 1:]]
                    self.raises(own_error, attribute, expected, call, bad_web, *args)

    def unaltered(self, call, *args):
        """The call leaves what it is passed as it was, and answers the same once more."""
        texts = [str(arg) for arg in args]
        kept = copy.deepcopy([arg for arg in args if isinstance(arg, tuple)])
        first = call(*args)
        self.assertEqual(first, call(*args))
        self.assertEqual(texts, [str(arg) for arg in args])
        self.assertEqual(kept, [arg for arg in args if isinstance(arg, tuple)])
        return first
