"""What a refusal has to be, for all tests of wrong inputs."""

import unittest

from cornerhunt.errors import HuntError


class RefusalCase(unittest.TestCase):
    def refused(self, known, call, *told, **more):
        """Check that the call is refused by this very class, and give the refusal."""
        with self.assertRaises(HuntError) as caught:
            call(*told, **more)
        self.assertIs(type(caught.exception), known)
        self.assertIsInstance(caught.exception, ValueError)
        self.assertIs(type(str(caught.exception)), str)
        return caught.exception
