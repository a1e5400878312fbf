"""The interface: each name in its file, with its parameters, and each method in its own class."""

import importlib
import inspect
import unittest

FUNCTIONS = {
    "basics": ["is_integer(value)", "is_count(value)", "is_list(value)"],
    "ratios": ["is_number(value)"],
    "fours": [
        "is_four(value)", "is_point(value)", "times_fours(four, other)", "norm_four(four)", "undone_four(four)",
    ],
    "poses": [
        "turn_pose(four)", "go_pose(point)", "led(pose, point)", "turned(pose)", "gone(pose)",
        "same_pose(pose, other)",
    ],
    "lines": [
        "is_line(value)", "told_line(line)", "line_through(point, other)", "is_on(line, point)", "line_of(hinge)",
        "hinge_by(line, number, scale)", "led_line(pose, line)", "far(line, other)", "sine(line, other)",
        "kind(line, other)",
    ],
    "polys": [
        "is_poly(value)", "told(poly)", "degree(poly)", "plus(poly, other)", "minus(poly, other)",
        "times(poly, other)", "scaled(poly, number)", "derived(poly)", "worth(poly, number)",
        "divided(poly, other)", "common(poly, other)",
    ],
    "motions": ["hinge_motion(hinge)", "row_motion(row)", "number_part(motion)"],
    "divisions": [
        "right_divided(motion, other)", "left_divided(motion, other)", "right_worth(motion, eight)",
        "rest_by(motion, poly)",
    ],
    "signs": ["real_roots(poly)", "square_free(poly)"],
    "wholes": ["whole_parts(poly)", "is_whole(poly)", "quadratics(poly)", "bound_part(poly)"],
    "sequences": ["divisors(poly)", "sequence_count(poly)", "sequences(poly)", "is_sequence(poly, value)"],
    "parts": [
        "right_part(motion, poly)", "left_part(motion, poly)", "is_right_part(motion, value)",
        "is_left_part(motion, value)", "quotient(motion, part)",
    ],
    "meets": [
        "within(motion, other)", "common_right(motion, other)", "right_parts(motion)",
        "least_over(motion, poly, other)",
    ],
    "rows": [
        "row_by(motion, sequence)", "a_row(motion)", "rows(motion)", "row_count(motion)", "is_row_of(motion, value)",
    ],
    "reasons": ["why_no_row(motion)", "is_why_no_row(motion, value)"],
    "exchanges": ["exchanged(row, place)", "walk(row, other)", "is_walk(row, other, value)"],
    "places": ["pose_at(motion, number)", "spots_at(motion, point, number)"],
    "paths": [
        "path(motion, point)", "path_degree(motion, point)", "fallen(motion, point)",
        "is_on_path(motion, point, other)",
    ],
    "resting": ["rests(motion, point)", "resting(motion)"],
    "chains": [
        "closes(row, other)", "opens_at(row, other)", "is_opening(row, other, value)", "chain(row, other)",
        "chains(motion)",
    ],
    "closing": ["chain_of_four(hinge, other)", "is_chain_of_four(value)"],
    "bennett": ["sides(hinges)", "is_bennett(hinges)"],
    "through": ["between(pose, other)", "three_motion(poses)", "is_through(poses, value)"],
    "changes": ["changed(motion, table)", "led_motion(motion, pose)", "led_row(row, pose)"],
    "likeness": ["alike(motion, other)", "is_alike(motion, other, value)", "frames(motion)"],
    "texts": ["sorts()", "is_of(sort, value)", "written(sort, value)"],
    "readers": ["read(text)"],
    "claims": [
        "words()", "is_claim(value)", "is_true(claim)", "contrary(claim)", "paper_of(claim)",
        "is_paper_of(claim, value)",
    ],
    "commands": ["is_name(value)", "is_command(value)", "is_deed(value)"],
    "desk": ["tried(desk, action)"],
}
CLASSES = {
    ("ratios", "Ratio"): [
        "__init__(self, top, bottom=1)", "over(self, other)", "size(self)", "is_below(self, other)",
        "is_at_most(self, other)", "__add__(self, other)", "__sub__(self, other)", "__mul__(self, other)",
        "__radd__(self, other)", "__rsub__(self, other)", "__rmul__(self, other)", "__neg__(self)",
        "__eq__(self, other)", "__str__(self)", "__repr__(self)",
    ],
    ("eights", "Eight"): [
        "__init__(self, first, second=(0, 0, 0, 0))", "first(self)", "second(self)", "mirror(self)",
        "undone(self)", "norm(self)", "times(self, number)", "__add__(self, other)", "__sub__(self, other)",
        "__mul__(self, other)", "__neg__(self)", "__eq__(self, other)", "__repr__(self)",
    ],
    ("motions", "Motion"): [
        "__init__(self, eights)", "eights(self)", "norm(self)", "mirror(self)", "worth(self, number)",
        "__mul__(self, other)", "__eq__(self, other)", "__repr__(self)",
    ],
    ("desk", "Desk"): [
        "__init__(self)", "__len__(self)", "__getitem__(self, at)", "__contains__(self, x)",
        "__call__(self, command)", "claim_of(self, label)", "do(self, command)", "do_all(self, *commands)",
        "attempt(self, *commands)", "attach(self, label, paper)", "fits(self, label)", "lines(self)", "copy(self)",
    ],
    ("desk", "Trial"): ["__init__(self, desk)", "__enter__(self)", "__exit__(self, kind, value, trace)"],
}
PROPERTIES = {
    ("ratios", "Ratio"): ["top", "bottom", "sign", "is_whole"],
    ("eights", "Eight"): ["is_pose", "is_hinge"],
    ("motions", "Motion"): ["degree", "is_plain"],
    ("desk", "Desk"): ["names", "labels"],
}


def module(name):
    return importlib.import_module("hingerows." + name)


class InterfaceTest(unittest.TestCase):
    def test_functions_stand_in_their_files(self):
        for place, heads in FUNCTIONS.items():
            for head in heads:
                name = head.partition("(")[0]
                function = getattr(module(place), name)
                self.assertEqual(head, name + str(inspect.signature(function)))
                self.assertEqual("hingerows." + place, function.__module__)

    def test_methods_stand_in_their_own_classes(self):
        for (place, name), heads in CLASSES.items():
            kind = getattr(module(place), name)
            self.assertEqual("hingerows." + place, kind.__module__)
            for head in heads:
                method = vars(kind)[head.partition("(")[0]]
                self.assertEqual(head, method.__name__ + str(inspect.signature(method)))

    def test_properties(self):
        for (place, name), names in PROPERTIES.items():
            for one in names:
                self.assertIsInstance(vars(getattr(module(place), name))[one], property)

    def test_class_methods(self):
        for place, name, method, head in (
            ("ratios", "Ratio", "total", "(numbers)"), ("desk", "Desk", "again", "(lines)"),
        ):
            kind = getattr(module(place), name)
            self.assertIsInstance(vars(kind)[method], classmethod)
            self.assertEqual(head, str(inspect.signature(getattr(kind, method))))
