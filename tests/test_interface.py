"""The names of the document's interface: defined where they are listed, with the parameters that are told."""

import importlib
import inspect
import unittest

INTERFACE = {
    "numbers": "is_fraction(value) is_number(value) sign_of(number) compared(number,other) plus(number,fraction)"
               " times(number,fraction) square_of(number) plain_of(number) floor_at(number,many) figures(number,places)",
    "points": "is_point(value) number_of(point,which) ordered(point,other) heard_sign(point,east,north,moment)"
              " beyond(point,side) heard_floor(point,east,north,many) heard_figures(point,east,north,places)",
    "scenes": "is_scene(value) wrong_in(value) rows_of(scene) states_at(scene,point) is_let(scene,point)"
              " moments_at(scene,place) broken_pair(scene,place) within_sides(scene,place)",
    "leads": "is_lead(value) led_place(lead,place) led_moment(lead,moment) led_scene(lead,scene) behind(lead,later)"
             " back(lead)",
    "text": "read(text) show(scene)",
    "candidates": "candidates(scene) fitting(scene) fits(scene) latest(scene) earliest(scene)",
}


class Interface(unittest.TestCase):
    def test_functions(self):
        for module, rows in INTERFACE.items():
            module = importlib.import_module(f"latestshake.{module}")
            for row in rows.split():
                name, _, parameters = row.removesuffix(")").partition("(")
                function = getattr(module, name)
                self.assertTrue(inspect.isfunction(function), name)
                self.assertEqual(function.__module__, module.__name__)
                told = inspect.signature(function).parameters.values()
                self.assertEqual([parameter.name for parameter in told], parameters.split(","), name)
                for parameter in told:
                    self.assertIs(parameter.kind, parameter.POSITIONAL_OR_KEYWORD)
                    self.assertIs(parameter.default, parameter.empty)


if __name__ == "__main__":
    unittest.main()
