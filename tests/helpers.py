"""What several test files need."""


class ErrorCase:
    """Mixed into test cases: looks at an error's class and at what it keeps."""

    def assert_raised(self, kind, kept, call, *values, **named):
        with self.assertRaises(kind) as caught:
            call(*values, **named)
        self.assertIs(type(caught.exception), kind)
        self.assertEqual(vars(caught.exception), kept)
