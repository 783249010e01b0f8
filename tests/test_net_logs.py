"""[80] to [84]: the log of whole runs, row by row."""

import unittest

from freshreach.nets import Net
from tests.runs import do_all
from tests.samples import TOWN


def with_bounds(*bounds):
    return TOWN[:4] + (bounds,)


class TestLogs(unittest.TestCase):
    maxDiff = None

    def check(self, net, deeds, log):
        """The log is this one, whether moments go by at once or one by one."""
        twin = net.twin()
        do_all(net, deeds)
        self.assertEqual(net.log(), log)
        for deed in deeds:
            do_all(twin, [("on", 1)] * deed[1] if deed[0] == "on" else [deed])
        self.assertEqual(twin.log(), log)
        self.assertEqual(twin, net)

    def test_a_page_is_read_again_and_looked_at_again(self):
        net = Net(TOWN)
        deeds = [
            ("ask", 0, "home", "news", 8, 40), ("on", 10), ("ask", 0, "home", "news", 6, 40),
            ("ask", 0, "home", "news", 5, 40), ("on", 10),
        ]
        self.check(net, deeds, [
            ("ask", 0, 0, 0, "home", "news", 8, 40),
            ("sent", 0, 0, 0, 1, ("who", 0, (0, 1), "home")),
            ("came", 1, 0, ("who", 0, (0, 1), "home")),
            ("sent", 1, 1, 1, 0, ("named", 0, (0, 1), "home", 2, 10, 1)),
            ("came", 2, 1, ("named", 0, (0, 1), "home", 2, 10, 1)),
            ("sent", 2, 2, 0, 2, ("piece", 0, (0, 2), "news", 0)),
            ("came", 4, 2, ("piece", 0, (0, 2), "news", 0)),
            ("sent", 4, 3, 2, 0, ("piece", 0, (0, 2), "news", 1, 2, 0, "ab", 8, 4)),
            ("came", 6, 3, ("piece", 0, (0, 2), "news", 1, 2, 0, "ab", 8, 4)),
            ("sent", 6, 4, 0, 2, ("piece", 0, (0, 3), "news", 1)),
            ("came", 8, 4, ("piece", 0, (0, 3), "news", 1)),
            ("sent", 8, 5, 2, 0, ("piece", 0, (0, 3), "news", 1, 2, 1, "c", 8, 8)),
            ("came", 10, 5, ("piece", 0, (0, 3), "news", 1, 2, 1, "c", 8, 8)),
            ("read", 10, 0, 2, 1, "abc", 1, 4),
            ("ask", 10, 1, 0, "home", "news", 6, 40),
            ("read", 10, 1, 2, 1, "abc", 1, 4),
            ("ask", 10, 2, 0, "home", "news", 5, 40),
            ("sent", 10, 6, 0, 2, ("same", 1, (2, 1), "news", 1)),
            ("came", 12, 6, ("same", 1, (2, 1), "news", 1)),
            ("sent", 12, 7, 2, 0, ("same", 1, (2, 1), "news", 1, 8, 12)),
            ("came", 14, 7, ("same", 1, (2, 1), "news", 1, 8, 12)),
            ("sent", 14, 8, 0, 1, ("who", 1, (2, 2), "home")),
            ("came", 15, 8, ("who", 1, (2, 2), "home")),
            ("sent", 15, 9, 1, 0, ("named", 1, (2, 2), "home", 2, 10, 15)),
            ("came", 16, 9, ("named", 1, (2, 2), "home", 2, 10, 15)),
            ("read", 16, 2, 2, 1, "abc", 15, 12),
        ])

    def test_no_name_and_no_page(self):
        net = Net(TOWN)
        deeds = [
            ("ask", 0, "none", "news", 8, 40), ("ask", 0, "shop", "note", 8, 40), ("on", 13),
        ]
        self.check(net, deeds, [
            ("ask", 0, 0, 0, "none", "news", 8, 40),
            ("sent", 0, 0, 0, 1, ("who", 0, (0, 1), "none")),
            ("ask", 0, 1, 0, "shop", "note", 8, 40),
            ("sent", 0, 1, 0, 1, ("who", 1, (1, 1), "shop")),
            ("came", 1, 0, ("who", 0, (0, 1), "none")),
            ("sent", 1, 2, 1, 0, ("unnamed", 0, (0, 1), "none", 1)),
            ("came", 1, 1, ("who", 1, (1, 1), "shop")),
            ("sent", 1, 3, 1, 0, ("named", 1, (1, 1), "shop", 3, 99, 1)),
            ("came", 2, 2, ("unnamed", 0, (0, 1), "none", 1)),
            ("broken", 2, 0, "no name"),
            ("came", 2, 3, ("named", 1, (1, 1), "shop", 3, 99, 1)),
            ("sent", 2, 4, 0, 3, ("piece", 1, (1, 2), "note", 0)),
            ("came", 5, 4, ("piece", 1, (1, 2), "note", 0)),
            ("sent", 5, 5, 3, 0, ("none", 1, (1, 2), "note", 5)),
            ("sent", 7, 6, 0, 3, ("piece", 1, (1, 2), "note", 0)),
            ("came", 8, 5, ("none", 1, (1, 2), "note", 5)),
            ("broken", 8, 1, "no page"),
            ("came", 10, 6, ("piece", 1, (1, 2), "note", 0)),
            ("sent", 10, 7, 3, 0, ("none", 1, (1, 2), "note", 10)),
            ("gone", 13, 7, "strange"),
        ])

    def test_lost_late_and_doubled_letters(self):
        net = Net(TOWN, ((0, ("lost",)), (2, ("late", 3)), (4, ("twice", 0)), (6, ("twice", 2))))
        deeds = [
            ("ask", 0, "home", "news", 99, 40), ("on", 30),
        ]
        self.check(net, deeds, [
            ("ask", 0, 0, 0, "home", "news", 99, 40),
            ("sent", 0, 0, 0, 1, ("who", 0, (0, 1), "home")),
            ("gone", 0, 0, "lost"),
            ("sent", 5, 1, 0, 1, ("who", 0, (0, 1), "home")),
            ("came", 6, 1, ("who", 0, (0, 1), "home")),
            ("sent", 6, 2, 1, 0, ("named", 0, (0, 1), "home", 2, 10, 6)),
            ("came", 10, 2, ("named", 0, (0, 1), "home", 2, 10, 6)),
            ("sent", 10, 3, 0, 2, ("piece", 0, (0, 2), "news", 0)),
            ("came", 12, 3, ("piece", 0, (0, 2), "news", 0)),
            ("sent", 12, 4, 2, 0, ("piece", 0, (0, 2), "news", 1, 2, 0, "ab", 8, 12)),
            ("came", 14, 4, ("piece", 0, (0, 2), "news", 1, 2, 0, "ab", 8, 12)),
            ("sent", 14, 5, 0, 2, ("piece", 0, (0, 3), "news", 1)),
            ("gone", 14, 4, "strange"),
            ("came", 16, 5, ("piece", 0, (0, 3), "news", 1)),
            ("sent", 16, 6, 2, 0, ("piece", 0, (0, 3), "news", 1, 2, 1, "c", 8, 16)),
            ("came", 18, 6, ("piece", 0, (0, 3), "news", 1, 2, 1, "c", 8, 16)),
            ("sent", 18, 7, 0, 1, ("who", 0, (0, 4), "home")),
            ("came", 19, 7, ("who", 0, (0, 4), "home")),
            ("sent", 19, 8, 1, 0, ("named", 0, (0, 4), "home", 2, 10, 19)),
            ("gone", 20, 6, "strange"),
            ("came", 20, 8, ("named", 0, (0, 4), "home", 2, 10, 19)),
            ("read", 20, 0, 2, 1, "abc", 19, 12),
        ])

    def test_the_order_of_letters_that_come_at_a_moment(self):
        net = Net(with_bounds(2, 40, 60, 2, 2), ((0, ("late", 2)), (1, ("twice", 1))))
        deeds = [
            ("ask", 0, "home", "note", 8, 20), ("on", 1), ("ask", 0, "shop", "note", 8, 20), ("on", 1),
            ("ask", 0, "home", "news", 8, 7), ("on", 18),
        ]
        self.check(net, deeds, [
            ("ask", 0, 0, 0, "home", "note", 8, 20),
            ("sent", 0, 0, 0, 1, ("who", 0, (0, 1), "home")),
            ("ask", 1, 1, 0, "shop", "note", 8, 20),
            ("sent", 1, 1, 0, 1, ("who", 1, (1, 1), "shop")),
            ("came", 2, 1, ("who", 1, (1, 1), "shop")),
            ("sent", 2, 2, 1, 0, ("named", 1, (1, 1), "shop", 3, 99, 2)),
            ("ask", 2, 2, 0, "home", "news", 8, 7),
            ("full", 2, 2),
            ("came", 3, 0, ("who", 0, (0, 1), "home")),
            ("sent", 3, 3, 1, 0, ("named", 0, (0, 1), "home", 2, 10, 3)),
            ("came", 3, 1, ("who", 1, (1, 1), "shop")),
            ("sent", 3, 4, 1, 0, ("named", 1, (1, 1), "shop", 3, 99, 3)),
            ("came", 3, 2, ("named", 1, (1, 1), "shop", 3, 99, 2)),
            ("sent", 3, 5, 0, 3, ("piece", 1, (1, 2), "note", 0)),
            ("came", 4, 3, ("named", 0, (0, 1), "home", 2, 10, 3)),
            ("sent", 4, 6, 0, 2, ("piece", 0, (0, 2), "note", 0)),
            ("gone", 4, 4, "strange"),
            ("came", 6, 5, ("piece", 1, (1, 2), "note", 0)),
            ("sent", 6, 7, 3, 0, ("none", 1, (1, 2), "note", 6)),
            ("came", 6, 6, ("piece", 0, (0, 2), "note", 0)),
            ("sent", 6, 8, 2, 0, ("piece", 0, (0, 2), "note", 1, 1, 0, "", 4, 6)),
            ("came", 8, 8, ("piece", 0, (0, 2), "note", 1, 1, 0, "", 4, 6)),
            ("read", 8, 0, 2, 1, "", 3, 6),
            ("came", 9, 7, ("none", 1, (1, 2), "note", 6)),
            ("broken", 9, 1, "no page"),
            ("broken", 9, 2, "late"),
        ])

    def test_roads_cut_and_mended(self):
        net = Net(TOWN, ((3, ("lost",)), (4, ("twice", 1))))
        deeds = [
            ("ask", 0, "home", "note", 9, 40), ("cut", 0, 1), ("on", 2), ("cut", 2, 0), ("on", 10), ("mend", 0, 1),
            ("mend", 0, 2), ("on", 10),
        ]
        self.check(net, deeds, [
            ("ask", 0, 0, 0, "home", "note", 9, 40),
            ("sent", 0, 0, 0, 1, ("who", 0, (0, 1), "home")),
            ("cut", 0, 0, 1),
            ("came", 1, 0, ("who", 0, (0, 1), "home")),
            ("sent", 1, 1, 1, 0, ("named", 0, (0, 1), "home", 2, 10, 1)),
            ("cut", 2, 0, 2),
            ("sent", 5, 2, 0, 1, ("who", 0, (0, 1), "home")),
            ("gone", 5, 2, "no way"),
            ("came", 6, 1, ("named", 0, (0, 1), "home", 2, 10, 1)),
            ("sent", 6, 3, 0, 2, ("piece", 0, (0, 2), "note", 0)),
            ("gone", 6, 3, "no way"),
            ("sent", 11, 4, 0, 2, ("piece", 0, (0, 2), "note", 0)),
            ("gone", 11, 4, "no way"),
            ("mend", 12, 0, 1),
            ("mend", 12, 0, 2),
            ("sent", 16, 5, 0, 2, ("piece", 0, (0, 2), "note", 0)),
            ("came", 18, 5, ("piece", 0, (0, 2), "note", 0)),
            ("sent", 18, 6, 2, 0, ("piece", 0, (0, 2), "note", 1, 1, 0, "", 4, 18)),
            ("came", 20, 6, ("piece", 0, (0, 2), "note", 1, 1, 0, "", 4, 18)),
            ("sent", 20, 7, 0, 1, ("who", 0, (0, 3), "home")),
            ("came", 21, 7, ("who", 0, (0, 3), "home")),
            ("sent", 21, 8, 1, 0, ("named", 0, (0, 3), "home", 2, 10, 21)),
            ("came", 22, 8, ("named", 0, (0, 3), "home", 2, 10, 21)),
            ("read", 22, 0, 2, 1, "", 21, 18),
        ])

    def test_round_about(self):
        net = Net(TOWN)
        deeds = [
            ("cut", 0, 2), ("cut", 0, 2), ("cut", 1, 0), ("cut", 3, 0), ("mend", 2, 4),
            ("ask", 0, "home", "note", 9, 40), ("on", 5), ("mend", 1, 0), ("on", 20),
        ]
        self.check(net, deeds, [
            ("cut", 0, 0, 2),
            ("cut", 0, 0, 2),
            ("cut", 0, 0, 1),
            ("cut", 0, 0, 3),
            ("mend", 0, 2, 4),
            ("ask", 0, 0, 0, "home", "note", 9, 40),
            ("sent", 0, 0, 0, 1, ("who", 0, (0, 1), "home")),
            ("gone", 0, 0, "no way"),
            ("sent", 5, 1, 0, 1, ("who", 0, (0, 1), "home")),
            ("gone", 5, 1, "no way"),
            ("mend", 5, 0, 1),
            ("sent", 10, 2, 0, 1, ("who", 0, (0, 1), "home")),
            ("came", 11, 2, ("who", 0, (0, 1), "home")),
            ("sent", 11, 3, 1, 0, ("named", 0, (0, 1), "home", 2, 10, 11)),
            ("came", 12, 3, ("named", 0, (0, 1), "home", 2, 10, 11)),
            ("sent", 12, 4, 0, 2, ("piece", 0, (0, 2), "note", 0)),
            ("came", 16, 4, ("piece", 0, (0, 2), "note", 0)),
            ("sent", 16, 5, 2, 0, ("piece", 0, (0, 2), "note", 1, 1, 0, "", 4, 16)),
            ("sent", 17, 6, 0, 2, ("piece", 0, (0, 2), "note", 0)),
            ("came", 20, 5, ("piece", 0, (0, 2), "note", 1, 1, 0, "", 4, 16)),
            ("read", 20, 0, 2, 1, "", 11, 16),
            ("came", 21, 6, ("piece", 0, (0, 2), "note", 0)),
            ("sent", 21, 7, 2, 0, ("piece", 0, (0, 2), "note", 1, 1, 0, "", 4, 21)),
            ("gone", 25, 7, "strange"),
        ])

    def test_rules_set_and_taken(self):
        net = Net(TOWN)
        deeds = [
            ("ask", 0, "home", "note", 9, 40), ("bar", 1, 0), ("bar", 0, 1), ("on", 1), ("free", 0, 1),
            ("bar", 2, 0), ("on", 5), ("bar", 0, 1), ("on", 1), ("free", 0, 2), ("free", 0, 1), ("free", 0, 1),
            ("on", 10),
        ]
        self.check(net, deeds, [
            ("ask", 0, 0, 0, "home", "note", 9, 40),
            ("sent", 0, 0, 0, 1, ("who", 0, (0, 1), "home")),
            ("bar", 0, 0, 1),
            ("bar", 0, 0, 1),
            ("gone", 1, 0, "barred"),
            ("free", 1, 0, 1),
            ("bar", 1, 0, 2),
            ("sent", 5, 1, 0, 1, ("who", 0, (0, 1), "home")),
            ("came", 6, 1, ("who", 0, (0, 1), "home")),
            ("sent", 6, 2, 1, 0, ("named", 0, (0, 1), "home", 2, 10, 6)),
            ("bar", 6, 0, 1),
            ("gone", 7, 2, "barred"),
            ("free", 7, 0, 2),
            ("free", 7, 0, 1),
            ("free", 7, 0, 1),
            ("sent", 10, 3, 0, 1, ("who", 0, (0, 1), "home")),
            ("came", 11, 3, ("who", 0, (0, 1), "home")),
            ("sent", 11, 4, 1, 0, ("named", 0, (0, 1), "home", 2, 10, 11)),
            ("came", 12, 4, ("named", 0, (0, 1), "home", 2, 10, 11)),
            ("sent", 12, 5, 0, 2, ("piece", 0, (0, 2), "note", 0)),
            ("came", 14, 5, ("piece", 0, (0, 2), "note", 0)),
            ("sent", 14, 6, 2, 0, ("piece", 0, (0, 2), "note", 1, 1, 0, "", 4, 14)),
            ("came", 16, 6, ("piece", 0, (0, 2), "note", 1, 1, 0, "", 4, 14)),
            ("read", 16, 0, 2, 1, "", 11, 14),
        ])

    def test_barred_at_one_coming_of_two(self):
        net = Net(with_bounds(2, 40, 60, 2, 2), ((0, ("twice", 3)),))
        deeds = [
            ("ask", 0, "home", "note", 9, 40), ("bar", 0, 1), ("on", 2), ("free", 0, 1), ("on", 8),
        ]
        self.check(net, deeds, [
            ("ask", 0, 0, 0, "home", "note", 9, 40),
            ("sent", 0, 0, 0, 1, ("who", 0, (0, 1), "home")),
            ("bar", 0, 0, 1),
            ("gone", 1, 0, "barred"),
            ("free", 2, 0, 1),
            ("came", 4, 0, ("who", 0, (0, 1), "home")),
            ("sent", 4, 1, 1, 0, ("named", 0, (0, 1), "home", 2, 10, 4)),
            ("came", 5, 1, ("named", 0, (0, 1), "home", 2, 10, 4)),
            ("sent", 5, 2, 0, 2, ("piece", 0, (0, 2), "note", 0)),
            ("came", 7, 2, ("piece", 0, (0, 2), "note", 0)),
            ("sent", 7, 3, 2, 0, ("piece", 0, (0, 2), "note", 1, 1, 0, "", 4, 7)),
            ("came", 9, 3, ("piece", 0, (0, 2), "note", 1, 1, 0, "", 4, 7)),
            ("read", 9, 0, 2, 1, "", 4, 7),
        ])

    def test_one_number_for_two_asks(self):
        net = Net(with_bounds(2, 5, 2, 1, 2))
        deeds = [
            ("ask", 0, "shop", "news", 99, 40), ("ask", 0, "shop", "news", 99, 40), ("on", 13),
        ]
        self.check(net, deeds, [
            ("ask", 0, 0, 0, "shop", "news", 99, 40),
            ("sent", 0, 0, 0, 1, ("who", 0, (0, 1), "shop")),
            ("ask", 0, 1, 0, "shop", "news", 99, 40),
            ("full", 0, 1),
            ("came", 1, 0, ("who", 0, (0, 1), "shop")),
            ("sent", 1, 1, 1, 0, ("named", 0, (0, 1), "shop", 3, 99, 1)),
            ("came", 2, 1, ("named", 0, (0, 1), "shop", 3, 99, 1)),
            ("sent", 2, 2, 0, 3, ("piece", 0, (0, 2), "news", 0)),
            ("came", 5, 2, ("piece", 0, (0, 2), "news", 0)),
            ("sent", 5, 3, 3, 0, ("piece", 0, (0, 2), "news", 1, 2, 0, "xy", 99, 5)),
            ("sent", 5, 4, 0, 1, ("who", 0, (1, 1), "shop")),
            ("came", 6, 4, ("who", 0, (1, 1), "shop")),
            ("sent", 6, 5, 1, 0, ("named", 0, (1, 1), "shop", 3, 99, 6)),
            ("came", 7, 5, ("named", 0, (1, 1), "shop", 3, 99, 6)),
            ("sent", 7, 6, 0, 3, ("piece", 0, (1, 2), "news", 0)),
            ("full", 7, 0),
            ("gone", 8, 3, "strange"),
            ("came", 10, 6, ("piece", 0, (1, 2), "news", 0)),
            ("sent", 10, 7, 3, 0, ("piece", 0, (1, 2), "news", 1, 2, 0, "xy", 99, 10)),
            ("sent", 12, 8, 0, 3, ("piece", 0, (0, 2), "news", 0)),
            ("full", 12, 1),
            ("gone", 13, 7, "strange"),
        ])

    def test_a_number_that_nobody_holds(self):
        net = Net(with_bounds(2, 9, 2, 2, 2))
        deeds = [
            ("ask", 0, "shop", "news", 9, 9), ("on", 20),
        ]
        self.check(net, deeds, [
            ("ask", 0, 0, 0, "shop", "news", 9, 9),
            ("sent", 0, 0, 0, 1, ("who", 0, (0, 1), "shop")),
            ("came", 1, 0, ("who", 0, (0, 1), "shop")),
            ("sent", 1, 1, 1, 0, ("named", 0, (0, 1), "shop", 3, 99, 1)),
            ("came", 2, 1, ("named", 0, (0, 1), "shop", 3, 99, 1)),
            ("sent", 2, 2, 0, 3, ("piece", 0, (0, 2), "news", 0)),
            ("came", 5, 2, ("piece", 0, (0, 2), "news", 0)),
            ("sent", 5, 3, 3, 0, ("piece", 0, (0, 2), "news", 1, 2, 0, "xy", 99, 5)),
            ("gone", 8, 3, "nobody"),
            ("broken", 9, 0, "late"),
        ])

    def test_a_page_written_between_its_pieces(self):
        net = Net(with_bounds(2, 40, 60, 2, 2))
        deeds = [
            ("ask", 0, "home", "news", 99, 60), ("on", 5), ("write", 2, "news", "vwxyz"), ("on", 10),
            ("write", 2, "news", "q"), ("write", 2, "news", ""), ("on", 9),
        ]
        self.check(net, deeds, [
            ("ask", 0, 0, 0, "home", "news", 99, 60),
            ("sent", 0, 0, 0, 1, ("who", 0, (0, 1), "home")),
            ("came", 1, 0, ("who", 0, (0, 1), "home")),
            ("sent", 1, 1, 1, 0, ("named", 0, (0, 1), "home", 2, 10, 1)),
            ("came", 2, 1, ("named", 0, (0, 1), "home", 2, 10, 1)),
            ("sent", 2, 2, 0, 2, ("piece", 0, (0, 2), "news", 0)),
            ("came", 4, 2, ("piece", 0, (0, 2), "news", 0)),
            ("sent", 4, 3, 2, 0, ("piece", 0, (0, 2), "news", 1, 2, 0, "ab", 8, 4)),
            ("write", 5, 2, "news", 2, "vwxyz"),
            ("came", 6, 3, ("piece", 0, (0, 2), "news", 1, 2, 0, "ab", 8, 4)),
            ("sent", 6, 4, 0, 2, ("piece", 0, (0, 3), "news", 1)),
            ("came", 8, 4, ("piece", 0, (0, 3), "news", 1)),
            ("sent", 8, 5, 2, 0, ("piece", 0, (0, 3), "news", 2, 3, 1, "xy", 8, 8)),
            ("came", 10, 5, ("piece", 0, (0, 3), "news", 2, 3, 1, "xy", 8, 8)),
            ("sent", 10, 6, 0, 2, ("piece", 0, (0, 4), "news", 0)),
            ("came", 12, 6, ("piece", 0, (0, 4), "news", 0)),
            ("sent", 12, 7, 2, 0, ("piece", 0, (0, 4), "news", 2, 3, 0, "vw", 8, 12)),
            ("came", 14, 7, ("piece", 0, (0, 4), "news", 2, 3, 0, "vw", 8, 12)),
            ("sent", 14, 8, 0, 2, ("piece", 0, (0, 5), "news", 1)),
            ("write", 15, 2, "news", 3, "q"),
            ("write", 15, 2, "news", 4, ""),
            ("came", 16, 8, ("piece", 0, (0, 5), "news", 1)),
            ("sent", 16, 9, 2, 0, ("piece", 0, (0, 5), "news", 4, 1, 0, "", 8, 16)),
            ("came", 18, 9, ("piece", 0, (0, 5), "news", 4, 1, 0, "", 8, 16)),
            ("sent", 18, 10, 0, 1, ("who", 0, (0, 6), "home")),
            ("came", 19, 10, ("who", 0, (0, 6), "home")),
            ("sent", 19, 11, 1, 0, ("named", 0, (0, 6), "home", 2, 10, 19)),
            ("came", 20, 11, ("named", 0, (0, 6), "home", 2, 10, 19)),
            ("read", 20, 0, 2, 4, "", 19, 16),
        ])

    def test_a_page_written_behind_its_reading(self):
        net = Net(with_bounds(2, 40, 60, 2, 2))
        deeds = [
            ("ask", 4, "home", "news", 99, 60), ("on", 8), ("write", 2, "news", "uvw"),
            ("ask", 4, "home", "news", 99, 60), ("ask", 4, "home", "news", 0, 6), ("on", 7),
        ]
        self.check(net, deeds, [
            ("ask", 0, 0, 4, "home", "news", 99, 60),
            ("sent", 0, 0, 4, 1, ("who", 0, (0, 1), "home")),
            ("came", 2, 0, ("who", 0, (0, 1), "home")),
            ("sent", 2, 1, 1, 4, ("named", 0, (0, 1), "home", 2, 10, 2)),
            ("came", 4, 1, ("named", 0, (0, 1), "home", 2, 10, 2)),
            ("sent", 4, 2, 4, 2, ("piece", 0, (0, 2), "news", 0)),
            ("came", 5, 2, ("piece", 0, (0, 2), "news", 0)),
            ("sent", 5, 3, 2, 4, ("piece", 0, (0, 2), "news", 1, 2, 0, "ab", 8, 5)),
            ("came", 6, 3, ("piece", 0, (0, 2), "news", 1, 2, 0, "ab", 8, 5)),
            ("sent", 6, 4, 4, 2, ("piece", 0, (0, 3), "news", 1)),
            ("came", 7, 4, ("piece", 0, (0, 3), "news", 1)),
            ("sent", 7, 5, 2, 4, ("piece", 0, (0, 3), "news", 1, 2, 1, "c", 8, 7)),
            ("came", 8, 5, ("piece", 0, (0, 3), "news", 1, 2, 1, "c", 8, 7)),
            ("read", 8, 0, 2, 1, "abc", 2, 5),
            ("write", 8, 2, "news", 2, "uvw"),
            ("ask", 8, 1, 4, "home", "news", 99, 60),
            ("read", 8, 1, 2, 1, "abc", 2, 5),
            ("ask", 8, 2, 4, "home", "news", 0, 6),
            ("sent", 8, 6, 4, 2, ("same", 1, (2, 1), "news", 1)),
            ("came", 9, 6, ("same", 1, (2, 1), "news", 1)),
            ("sent", 9, 7, 2, 4, ("piece", 1, (2, 1), "news", 2, 2, 0, "uv", 8, 9)),
            ("came", 10, 7, ("piece", 1, (2, 1), "news", 2, 2, 0, "uv", 8, 9)),
            ("sent", 10, 8, 4, 2, ("piece", 1, (2, 2), "news", 1)),
            ("came", 11, 8, ("piece", 1, (2, 2), "news", 1)),
            ("sent", 11, 9, 2, 4, ("piece", 1, (2, 2), "news", 2, 2, 1, "w", 8, 11)),
            ("came", 12, 9, ("piece", 1, (2, 2), "news", 2, 2, 1, "w", 8, 11)),
            ("sent", 12, 10, 4, 2, ("same", 1, (2, 3), "news", 2)),
            ("came", 13, 10, ("same", 1, (2, 3), "news", 2)),
            ("sent", 13, 11, 2, 4, ("same", 1, (2, 3), "news", 2, 8, 13)),
            ("came", 14, 11, ("same", 1, (2, 3), "news", 2, 8, 13)),
            ("sent", 14, 12, 4, 1, ("who", 1, (2, 4), "home")),
            ("broken", 14, 2, "late"),
        ])

    def test_a_name_led_elsewhere(self):
        net = Net(with_bounds(2, 40, 60, 2, 2))
        deeds = [
            ("ask", 0, "shop", "news", 99, 60), ("on", 1), ("lead", "shop", 2), ("on", 30),
            ("ask", 0, "shop", "news", 99, 60), ("ask", 4, "shop", "news", 99, 60), ("on", 8),
        ]
        self.check(net, deeds, [
            ("ask", 0, 0, 0, "shop", "news", 99, 60),
            ("sent", 0, 0, 0, 1, ("who", 0, (0, 1), "shop")),
            ("came", 1, 0, ("who", 0, (0, 1), "shop")),
            ("sent", 1, 1, 1, 0, ("named", 0, (0, 1), "shop", 3, 99, 1)),
            ("lead", 1, "shop", 2),
            ("came", 2, 1, ("named", 0, (0, 1), "shop", 3, 99, 1)),
            ("sent", 2, 2, 0, 3, ("piece", 0, (0, 2), "news", 0)),
            ("came", 5, 2, ("piece", 0, (0, 2), "news", 0)),
            ("sent", 5, 3, 3, 0, ("piece", 0, (0, 2), "news", 1, 2, 0, "xy", 99, 5)),
            ("came", 8, 3, ("piece", 0, (0, 2), "news", 1, 2, 0, "xy", 99, 5)),
            ("sent", 8, 4, 0, 3, ("piece", 0, (0, 3), "news", 1)),
            ("came", 11, 4, ("piece", 0, (0, 3), "news", 1)),
            ("sent", 11, 5, 3, 0, ("piece", 0, (0, 3), "news", 1, 2, 1, "z", 99, 11)),
            ("came", 14, 5, ("piece", 0, (0, 3), "news", 1, 2, 1, "z", 99, 11)),
            ("read", 14, 0, 3, 1, "xyz", 1, 5),
            ("ask", 31, 1, 0, "shop", "news", 99, 60),
            ("read", 31, 1, 3, 1, "xyz", 1, 5),
            ("ask", 31, 2, 4, "shop", "news", 99, 60),
            ("sent", 31, 6, 4, 1, ("who", 0, (2, 1), "shop")),
            ("came", 33, 6, ("who", 0, (2, 1), "shop")),
            ("sent", 33, 7, 1, 4, ("named", 0, (2, 1), "shop", 2, 99, 33)),
            ("came", 35, 7, ("named", 0, (2, 1), "shop", 2, 99, 33)),
            ("sent", 35, 8, 4, 2, ("piece", 0, (2, 2), "news", 0)),
            ("came", 36, 8, ("piece", 0, (2, 2), "news", 0)),
            ("sent", 36, 9, 2, 4, ("piece", 0, (2, 2), "news", 1, 2, 0, "ab", 8, 36)),
            ("came", 37, 9, ("piece", 0, (2, 2), "news", 1, 2, 0, "ab", 8, 36)),
            ("sent", 37, 10, 4, 2, ("piece", 0, (2, 3), "news", 1)),
            ("came", 38, 10, ("piece", 0, (2, 3), "news", 1)),
            ("sent", 38, 11, 2, 4, ("piece", 0, (2, 3), "news", 1, 2, 1, "c", 8, 38)),
            ("came", 39, 11, ("piece", 0, (2, 3), "news", 1, 2, 1, "c", 8, 38)),
            ("read", 39, 2, 2, 1, "abc", 33, 36),
        ])


if __name__ == "__main__":
    unittest.main()
