"""slide over many systems."""

import unittest

from many import ManyTest
from system_many import ManySystems


class ManySlideTest(ManySystems, ManyTest):
    name = "slide"


if __name__ == "__main__":
    unittest.main()
