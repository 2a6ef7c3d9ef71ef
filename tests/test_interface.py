"""The names of the document's interface: defined where they are listed, with the parameters that are told."""

import importlib
import inspect
import unittest

INTERFACE = {
    "numbers": "is_fraction(value) is_number(value) sign_of(number) compared(number,other) plus(number,fraction)"
               " times(number,fraction) square_of(number) plain_of(number) floor_at(number,many) figures(number,places)",
    "points": "is_point(value) number_of(point,which) ordered(point,other) heard_sign(point,east,north,moment)"
              " beyond(point,side) heard_floor(point,east,north,many) heard_figures(point,east,north,places)",
    "scenes": "is_scene(value) wrong_in(value) rows_of(scene) states_at(scene,point) is_let(scene,point)"
              " moments_at(scene,place) broken_pair(scene,place) within_sides(scene,place)",
    "leads": "is_lead(value) led_place(lead,place) led_moment(lead,moment) led_scene(lead,scene) behind(lead,later)"
             " back(lead)",
    "text": "read(text) show(scene)",
    "candidates": "candidates(scene) fitting(scene) fits(scene) latest(scene) earliest(scene)",
    "questions": "possibly(scene,sides) surely(scene,sides) shut_place(scene,corners) is_polygon(value)",
    "wrong": "broken_by(scene,point) is_enough(scene,lot) point_without(scene,lot) least_lots(scene) fewest(scene)"
             " suspects(scene) cleared(scene) conflicts(scene) least_stations(scene) likely_point(scene,many)"
             " latest_likely(scene,many)",
    "pictures": "signs(scene,window) drawing(scene,window) signs_in(drawing,many)",
    "checker": "accepts(claim,paper)",
    "certificates": "certify_fits(scene) certify_in(scene,sides) certify_latest(scene) certify_lot(scene,lot)"
                    " certify_least(scene) certify_conflict(scene,lot) certify_likely(scene,many)",
}
CLASSES = {
    ("books", "Book"): "put_station(name,x,y) strike_station(name) put_reading(label,name,low,high) put_side(label,u,v,c)"
                       " strike(label) undo() redo() scene() labels() work() steps() kept() fits() latest() least_wrong()",
    ("console", "Console"): "said(line)",
}


class Interface(unittest.TestCase):
    def takes(self, function, parameters):
        """Whether a function has just these parameters, by position or by name, without defaults."""
        told = list(inspect.signature(function).parameters.values())
        self.assertEqual([parameter.name for parameter in told], [name for name in parameters.split(",") if name])
        for parameter in told:
            self.assertIs(parameter.kind, parameter.POSITIONAL_OR_KEYWORD)
            self.assertIs(parameter.default, parameter.empty)

    def test_classes(self):
        for (module, name), rows in CLASSES.items():
            module = importlib.import_module(f"latestshake.{module}")
            made = getattr(module, name)
            self.assertTrue(inspect.isclass(made))
            self.assertEqual(made.__module__, module.__name__)
            self.takes(made, "")
            for row in rows.split():
                word, _, parameters = row.removesuffix(")").partition("(")
                # Defined in the class itself, not in one above it.
                self.assertTrue(inspect.isfunction(vars(made)[word]))
                self.takes(getattr(made(), word), parameters)
        self.assertIn("book", vars(importlib.import_module("latestshake.console").Console()))

    def test_functions(self):
        for module, rows in INTERFACE.items():
            module = importlib.import_module(f"latestshake.{module}")
            for row in rows.split():
                name, _, parameters = row.removesuffix(")").partition("(")
                function = getattr(module, name)
                self.assertTrue(inspect.isfunction(function), name)
                self.assertEqual(function.__module__, module.__name__)
                self.takes(function, parameters)


if __name__ == "__main__":
    unittest.main()
