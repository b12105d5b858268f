"""Pistons: their ends, and the cams that are pressed there."""


def cam_place(j):
    """The place of a piston at which its cam j is pressed."""
    return 2 * j


def end_cam(sections, p, side):
    """The cam that is pressed at the end of a piston on this side, 1 for out, 0 for in."""
    return sections[p] if side == 1 else 0


def end_place(sections, p, side):
    """The place of the end of a piston on this side."""
    return cam_place(end_cam(sections, p, side))


def is_pressed(places, cam):
    """Whether the cam of a line is pressed while the pistons are at these places."""
    return places[cam[1]] == cam_place(cam[2])
