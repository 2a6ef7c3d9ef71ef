"""Pictures of what a scene lets in a window: signs for its squares, and drawings from which they can be read again."""

from latestshake.counts import need_squares
from latestshake.drawings import drawing_of, signs_told
from latestshake.errors import InvalidDrawing
from latestshake.scenes import need_scene
from latestshake.squares import signs_by
from latestshake.windows import need_window


def signs(scene, window):
    """Rows of signs for the squares of a window: "#" if the middle is let, "+" if just some other place is, or "."."""
    need_scene(scene)
    need_window(window)
    return signs_by(scene, window)


def drawing(scene, window):
    """The text of an SVG that shows the signs and the stations."""
    need_scene(scene)
    need_window(window)
    return drawing_of(signs_by(scene, window), scene[0], window)


def signs_in(drawing, many):
    """The signs that a drawing of so many squares a side tells."""
    if not isinstance(drawing, str):
        raise InvalidDrawing(drawing)
    need_squares(many)
    told = signs_told(drawing, many)
    if told is None:
        raise InvalidDrawing(drawing)
    return told
