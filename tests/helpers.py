"""What several tests use."""

import os

HERE = os.path.dirname(os.path.abspath(__file__))

# Values of all kinds, for parameters that take any value.
ANYTHING = (None, True, False, 0, 1, -1, 10 ** 40, "", "0", "text", b"0", 1.0, (), [], (0,), [0], (True,), ("a",),
            (None,), ((0, 0),), [[0, 0]], {}, {1: 2}, {1}, object(), len, int)


class Refusals:
    """Mixed into test cases: asks which error a call raises."""

    def refuses(self, error, fields, call, *arguments, **named):
        """The call raises just this error, with these fields."""
        with self.assertRaises(error) as caught:
            call(*arguments, **named)
        self.assertIs(type(caught.exception), error)
        self.assertEqual(list(vars(caught.exception).values()), list(fields))

    def refuses_text(self, item, call, *arguments):
        """The call raises BadText, at this item."""
        from sevenasone.errors import BadText
        self.refuses(BadText, (0, item), call, *arguments)

    def exactly(self, value, expected):
        """Both are equal, and of the same kinds all the way in."""
        self.assertEqual(repr(value), repr(expected))
