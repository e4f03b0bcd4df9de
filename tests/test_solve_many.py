"""solve over many systems."""

import unittest

from many import ManyTest
from system_many import ManySystems


class ManySolveTest(ManySystems, ManyTest):
    name = "solve"


if __name__ == "__main__":
    unittest.main()
