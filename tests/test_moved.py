"""Promise 2, moved shapes: every kind of transform, on shapes and on groups within groups."""

import unittest

from pictures import DrawnTest, drawn

# Neither like its mirror picture nor like itself turned.
HOOK = '<polygon points="0 0 3 0 3 1 1 1 1 2 0 2"{}/>'
HOOK_ROWS = ("###.", "#...")
DISK = '<circle cx="2" cy="2" r="2"{}/>'


def hook(transform):
    return HOOK.format(f' transform="{transform}"')


def disk(transform):
    return DISK.format(f' transform="{transform}"')


def group(transform, inside):
    return f'<g transform="{transform}">{inside}</g>'


class Steps(DrawnTest):
    def test_translate(self):
        self.drawn_as(hook("translate(2 1)"), "......", "..###.", "..#...")
        self.drawn_as(hook("translate(2)"), "..###.", "..#...", "......")
        self.drawn_as(hook("translate(-1)"), "##....", "......")
        self.drawn_as(hook("translate(-1-1)"), "......", "......")

    def test_scale(self):
        self.drawn_as(hook("scale(2)"), "######.", "######.", "##.....", "##.....", ".......")
        self.drawn_as(hook("scale(2 1)"), "######.", "##.....", ".......")
        self.drawn_as(hook("scale(1,2)"), "###.", "###.", "#...", "#...", "....")

    def test_matrix(self):
        self.drawn_as(hook("matrix(1 0 0 1 1 1)"), "....", ".###", ".#..")
        self.drawn_as(hook("matrix(2 0 0 1 1 0)"), ".######", ".##....")
        self.drawn_as(hook("matrix(0 1 1 0 0 0)"), "##.", "#..", "#..")
        box = '<rect width="3" height="{}" transform="matrix({})"/>'
        self.drawn_as(box.format(3, "1 0 1 1 0 0"), "###...", ".###..", "..###.", "......")
        self.drawn_as(box.format(2, "1 1 0 1 0 0"), "...", "#..", "##.", ".##", "..#")

    def test_rotate(self):
        for angle in (0, 90, 180, 270):
            self.drawn_as(hook(f"translate(4 4) rotate({angle})"), *self.turned(angle))
        for angle in (-90, -180, -270):
            self.drawn_as(hook(f"translate(4 4) rotate({angle})"), *self.turned(angle + 360))

    def turned(self, angle):
        rows = {
            0: ("........", "........", "........", "........", "....###.", "....#...", "........", "........"),
            90: ("........", "........", "........", "........", "..##....", "...#....", "...#....", "........"),
            180: ("........", "........", "...#....", ".###....", "........", "........", "........", "........"),
            270: ("........", "....#...", "....#...", "....##..", "........", "........", "........", "........"),
        }
        return rows[angle]

    def test_mirrors(self):
        self.drawn_as(hook("translate(4) scale(-1 1)"), ".###", "...#")
        self.drawn_as(hook("translate(0 3) scale(1 -1)"), "....", "#...", "###.")
        self.drawn_as(hook("matrix(-1 0 0 1 4 0)"), ".###", "...#")
        self.drawn_as(disk("translate(1) matrix(0 1 1 0 0 0)"), "..##.", ".####", ".####", "..##.")

    def test_mirrors_with_either_rule(self):
        ring = '<path d="M0 0h5v3h-5zM1 1v1h3v-1z"{}/>'
        for rule in ("nonzero", "evenodd"):
            more = f' fill-rule="{rule}" transform="translate(6) scale(-1 1)"'
            self.drawn_as(ring.format(more), ".#####.", ".#...#.", ".#####.")

    def test_nothing_is_left(self):
        for transform in ("scale(0)", "scale(0 5)", "scale(5 0)", "matrix(1 2 2 4 3 3)", "matrix(1 1 1 1 0 0)"):
            self.empty(hook(transform), disk(transform), hook(f"translate(3) {transform} translate(1 1)"))
        self.empty(group("scale(0)", hook("scale(5)") + disk("")))

    def test_a_row_of_steps(self):
        self.drawn_as(hook("translate(1 0)scale(2)"), ".######", ".######", ".##....", ".##....")
        self.drawn_as(hook("scale(2)translate(1 0)"), "..######", "..######", "..##....", "..##....")
        self.drawn_as(hook("translate(4) rotate(90) scale(1 2)"), "####", "..##", "..##", "....")
        self.drawn_as(hook("translate(4) scale(1 2) rotate(90)"), "..##", "..##", "...#", "...#", "...#", "...#")

    def test_no_step(self):
        self.drawn_as(hook(""), *HOOK_ROWS)
        self.drawn_as(hook(" "), *HOOK_ROWS)


class Slanted(DrawnTest):
    def test_a_stretched_circle(self):
        self.drawn_as(
            disk("scale(2 1)"),
            ".######.",
            "########",
            "########",
            ".######.",
        )
        self.drawn_as(disk("scale(1 2)"), ".##.", "####", "####", "####", "####", "####", "####", ".##.", "....")

    def test_a_slanted_circle(self):
        self.drawn_as(
            disk("matrix(1 0 1 1 2 1)"),
            "............",
            "...###......",
            "....###.....",
            ".....###....",
            "......###...",
            "............",
        )
        self.drawn_as(disk("matrix(1 1 0 1 0 0)"), "....", "#...", "##..", "###.", ".###", "..##", "...#")

    def test_a_turned_circle(self):
        for angle in (0, 90, 180, 270):
            self.drawn_as(
                group(f"translate(4 3) rotate({angle})", '<circle r="2"/>'),
                "........", "...##...", "..####..", "..####..", "...##...", "........",
            )

    def test_largest_matrices(self):
        self.drawn_as('<circle r="1" transform="scale(1024) scale(1024)"/>', "##", "##")
        self.drawn_as('<rect width="1" height="1" transform="scale(1024) scale(1024)"/>', "##", "##")
        self.drawn_as('<rect x="4096" width="1" height="1" transform="scale(4096) translate(-4096)"/>', "##", "##")
        self.empty('<rect x="4095" width="1" height="1" transform="scale(4096) translate(-4096)"/>')
        edge = "translate(2 0) scale(-1024 1024) scale(1024)"
        self.drawn_as(f'<rect width="1" height="1" transform="{edge}"/>', "##..", "##..")
        self.drawn_as(f'<circle cx="1" r="1" transform="{edge}"/>', "##..", "##..")


class Groups(DrawnTest):
    def test_a_group(self):
        self.drawn_as(group("translate(2 1)", HOOK.format("")), "......", "..###.", "..#...")
        self.drawn_as(group("translate(1)", disk("translate(1 0)")), "...##.", "..####", "..####", "...##.")

    def test_the_inner_one_is_done_first(self):
        self.drawn_as(group("translate(1 0)", hook("scale(2)")), ".######", ".######", ".##....", ".##....")
        self.drawn_as(group("scale(2)", hook("translate(1 0)")), "..######", "..######", "..##....", "..##....")

    def test_groups_within_groups(self):
        for opened in range(4):
            steps = ["translate(4)", "rotate(90)", "scale(1 2)"]
            inside = hook(" ".join(steps[opened:]))
            for step in reversed(steps[:opened]):
                inside = group(step, inside)
            self.drawn_as(inside, "####", "..##", "..##", "....")

    def test_a_group_does_not_move_what_is_behind_it(self):
        box = '<rect width="1" height="1"/>'
        self.drawn_as(group("translate(2)", box) + box, "#.#.", "....")
        self.drawn_as(group("translate(2)", group("translate(1)", box) + box) + box, "#.##", "....")
        self.drawn_as(group("translate(2)", "") + box, "#...", "....")
        self.drawn_as(hook("translate(9)") + box, "#...", "....")

    def test_sixteen_groups_around_a_group(self):
        box = '<rect width="1" height="1"/>'
        self.drawn_as('<g transform="translate(1)">' * 17 + box + "</g>" * 17, "." * 17 + "#.")

    def test_transform_on_svg_does_not_matter(self):
        self.assertEqual(drawn(HOOK.format(""), 4, 2, ' transform="translate(9 9)"'), list(HOOK_ROWS))


if __name__ == "__main__":
    unittest.main()
