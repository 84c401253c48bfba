import unittest

from codenests.grounds import Ground
from codenests.nests import Nest, standard
from codenests.parts import Part
from codenests.printer import code_text, ground_text, nest_text, part_text, row_text, script_text
from tests.anything import GREAT

C1 = ((1, 0, 2),)
C2 = ((1, 0, 2), (0, 1, 1))


class Texts(unittest.TestCase):
    def check(self, text, wanted):
        self.assertEqual(text, wanted)
        self.assertIs(type(text), str)

    def test_grounds(self):
        self.check(ground_text(Ground(2, 3)), "ground 2 3;\n")
        self.check(ground_text(Ground(13, 0)), "ground 13 0;\n")
        self.check(ground_text(Ground(9973, 30)), "ground 9973 30;\n")

    def test_rows(self):
        self.check(row_text(()), "()")
        self.check(row_text((0,)), "(0)")
        self.check(row_text((1, 0, 12)), "(1, 0, 12)")
        self.check(row_text((GREAT, 0)), "(" + "9" * 40 + ", 0)")

    def test_codes(self):
        self.check(code_text(()), "[]")
        self.check(code_text(((),)), "[()]")
        self.check(code_text(C1), "[(1, 0, 2)]")
        self.check(code_text(C2), "[(1, 0, 2), (0, 1, 1)]")
        self.check(code_text(((), (7,), (), (0, GREAT))), "[(), (7), (), (0, " + "9" * 40 + ")]")

    def test_nests(self):
        self.check(nest_text(standard(Ground(2, 3))), "nest {\n[(1, 0, 0)];\n[(1, 0, 0), (0, 1, 0)];\n}\n")
        self.check(nest_text(Nest(Ground(3, 3), [C1, C2])), "nest {\n[(1, 0, 2)];\n[(1, 0, 2), (0, 1, 1)];\n}\n")
        self.check(nest_text(standard(Ground(2, 0))), "nest {\n}\n")
        self.check(nest_text(standard(Ground(2, 1))), "nest {\n}\n")
        self.check(nest_text(standard(Ground(11, 2))), "nest {\n[(1, 0)];\n}\n")

    def test_partial_nests(self):
        self.check(part_text(Part(Ground(3, 3), [])), "part {\n}\n")
        self.check(part_text(Part(Ground(3, 3), [C2])), "part {\n[(1, 0, 2), (0, 1, 1)];\n}\n")
        self.check(part_text(Part(Ground(3, 3), [C1, C2])), "part {\n[(1, 0, 2)];\n[(1, 0, 2), (0, 1, 1)];\n}\n")

    def test_scripts(self):
        self.check(script_text([]), "script {\n}\n")
        self.check(script_text([(1, ((1, 1, 0),))]), "script {\n1 [(1, 1, 0)];\n}\n")
        self.check(script_text([(2, C2), (10, ()), (0, ((),)), (GREAT, ((GREAT,),))]),
                   "script {\n2 [(1, 0, 2), (0, 1, 1)];\n10 [];\n0 [()];\n"
                   + "9" * 40 + " [(" + "9" * 40 + ")];\n}\n")
        self.check(script_text(((1, C1), (1, C1))), "script {\n1 [(1, 0, 2)];\n1 [(1, 0, 2)];\n}\n")
