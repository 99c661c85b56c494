"""Points 133 to 135: scripts."""

import unittest

from foldkeep.errors import NoScript, NoSuchDevice
from foldkeep.names import Rule
from foldkeep.net import Net
from foldkeep.scripts import read_event, read_events, run_script
from test_net import looks

# A line of each form, and what it says.
FORMS = [
    ('0 make folder "a" "text" runs', ("program", 0, ("make", ("folder", ("a",)), "text", True))),
    ('1 make outside "a/b c" "" plain', ("program", 1, ("make", ("outside", ("a", "b c")), "", False))),
    ('2 make in 7 "a" "x" plain', ("program", 2, ("make", (7, ("a",)), "x", False))),
    ('0 make_folder folder "a"', ("program", 0, ("make_folder", ("folder", ("a",))))),
    ('0 make_other in 3 "a"', ("program", 0, ("make_other", (3, ("a",))))),
    ('0 remove outside "a"', ("program", 0, ("remove", ("outside", ("a",))))),
    ('0 remove_folder folder ""', ("program", 0, ("remove_folder", ("folder", ())))),
    ('0 rename folder "a" outside "b"', ("program", 0, ("rename", ("folder", ("a",)), ("outside", ("b",))))),
    ('0 rename in 3 "a" in 4 "b"', ("program", 0, ("rename", (3, ("a",)), (4, ("b",))))),
    ('0 cut folder "a"', ("program", 0, ("cut", ("folder", ("a",))))),
    ('0 cut thing 5', ("program", 0, ("cut", 5))),
    ('0 write thing 3 1 "x"', ("program", 0, ("write", 3, 1, "x"))),
    ('0 write in 3 "a" 12 "x y"', ("program", 0, ("write", (3, ("a",)), 12, "x y"))),
    ('0 set_runs folder "a" runs', ("program", 0, ("set_runs", ("folder", ("a",)), True))),
    ('0 set_runs thing 0 plain', ("program", 0, ("set_runs", 0, False))),
    ('0 read outside "a"', ("program", 0, ("read", ("outside", ("a",))))),
    ('0 read thing 9', ("program", 0, ("read", 9))),
    ('0 open folder "a"', ("program", 0, ("open", ("folder", ("a",))))),
    ('0 close 4', ("program", 0, ("close", 4))),
    ('0 step', ("step", 0)),
    ('1 refuse', ("refuse", 1)),
    ('2 unanswered', ("unanswered", 2)),
    ('12 crash', ("crash", 12)),
    ('0 speak 1', ("speak", 0, 1)),
    ('0 speak 0', ("speak", 0, 0)),
    ('deliver 0', ("deliver", 0)),
    ('lose 3', ("lose", 3)),
    ('again 10', ("again", 10)),
    ('0 wish scan', ("wish", 0, ("scan",))),
    ('0 wish put_away "a/b" 1', ("wish", 0, ("put_away", ("a", "b"), 1))),
    ('0 wish fetch "a"', ("wish", 0, ("fetch", ("a",)))),
    ('0 wish trim 3', ("wish", 0, ("trim", 3))),
    ('0 wish restore 5 "a"', ("wish", 0, ("restore", 5, ("a",)))),
    ('0 wish fetch ""', ("wish", 0, ("fetch", ()))),
]


class Events(unittest.TestCase):
    def none(self, *lines):
        for line in lines:
            self.assertIsNone(read_event(line), line)

    def test_each_form(self):
        for line, event in FORMS:
            self.assertEqual(read_event(line), event, line)

    def test_words_too_many_and_too_few(self):
        for line, _ in FORMS:
            for more in ["x", "1", '"x"', "runs", "#", "step", '"a" "b"', "folder", "thing 3"]:
                self.none(line + " " + more, more + " " + line)
            parts = line.split(" ")
            for length in range(len(parts)):
                self.none(" ".join(parts[:length]))
                if length > 0:
                    self.none(" ".join(parts[length:]))

    def test_blanks(self):
        for line, _ in FORMS:
            self.none(" " + line, line + " ", line + "\t", "\t" + line, line.replace(" ", "  ", 1), line.replace(" ", "\t", 1),
                      line.replace(" ", "", 1), line + "\r", line + "\n", "\n" + line, line.replace(" ", "\n", 1))
        self.none("", " ", "\t")

    def test_blanks_between_quoted_texts(self):
        self.none('0 write folder "a"x7 "x"', '0 rename folder "a"xfolder "b"', '0 rename folder "a"\tfolder "b"')
        self.none('0 make folder "a""x" runs', '0 make folder "a"  "x" runs', '0 make folder"a" "x" runs', '0 make folder "a" "x"runs')

    def test_words_that_are_none(self):
        self.none('0 makes folder "a" "x" runs', '0 Make folder "a" "x" runs', '0 "step"', '"0" step', '0 STEP', "0 step.", "1",
                  "step", "0 deliver 1", "0 lose 1", "0 again 1", "wish scan", "0 scan", "0 wish", "0 wish step", "0 wish wish scan",
                  "0 program", "0 wish make", "speak 0 1", "step 0", "0 0 step", "deliver", "deliver 1 2", "x 0", "0 thing 3")

    def test_runs(self):
        for word in ["run", "Runs", "plains", "True", "0", '"runs"', "folder"]:
            self.none('0 make folder "a" "x" ' + word, "0 set_runs thing 3 " + word)

    def test_numbers(self):
        for word, number in [("0", 0), ("7", 7), ("10", 10), ("4294967294", 4294967294), ("4294967295", 4294967295)]:
            self.assertEqual(read_event(word + " step"), ("step", number))
            self.assertEqual(read_event("deliver " + word), ("deliver", number))
            self.assertEqual(read_event(f'0 write thing {word} {word} "x"'), ("program", 0, ("write", number, number, "x")))
            self.assertEqual(read_event(f'0 cut in {word} "a"'), ("program", 0, ("cut", (number, ("a",)))))
        for word in ["00", "01", "007", "-1", "+1", "-0", "1.0", "1x", "x1", "1_0", "0x1", "4294967296", "4294967300", "9999999999",
                     "10000000000", "1" * 50, '"1"', "\u0661", "\u00b2", "1e3", "#1", "one"]:
            self.none(word + " step", "deliver " + word, f'0 write thing 3 {word} "x"', f'0 cut in {word} "a"', "0 speak " + word,
                      "0 close " + word, "0 cut thing " + word, "0 wish trim " + word, f'0 wish put_away "a" {word}',
                      f'0 wish restore {word} "a"')

    def quoted(self, text):
        return read_event("0 write thing 3 0 " + text)

    def test_quoted_texts(self):
        for written, text in [
            ('""', ""), ('" "', " "), ('"  a  "', "  a  "), ('"a b"', "a b"), (r'"\""', '"'), (r'"\\"', "\\"), (r'"\n"', "\n"),
            (r'"\\n"', "\\n"), (r'"\\\""', '\\"'), (r'"\\\\"', "\\\\"), (r'"a\"b\\c\nd"', 'a"b\\c\nd'), ('"\t"', "\t"),
            ('"#"', "#"), ("\"'\"", "'"), ('"/"', "/"), ('"folder"', "folder"), ('"1"', "1"), ('"a%b"', "a%b"), ('"n"', "n"),
        ]:
            self.assertEqual(self.quoted(written), ("program", 0, ("write", 3, 0, text)), written)

    def test_quotation_marks_and_backslashes_that_are_wrong(self):
        for written in ['"', 'x', '"x', 'x"', '"x"y', 'y"x"', '"x""', '""x"', '"x"y"', r'"\"', r'"\\\"', r'"\t"', r'"\x"', r'"\ "',
                        r'"\N"', r'"\0"', '"a\nb"', '"\\\n"', "'x'", r'\"x\"', r'"x\"', '"\\']:
            self.assertIsNone(self.quoted(written), written)

    def test_paths(self):
        for written, path in [('""', ()), ('"a"', ("a",)), ('"a/b/c"', ("a", "b", "c")), ('"a b"', ("a b",)), ('"..."', ("...",)),
                              (r'"\""', ('"',)), (r'"a\\b"', ("a\\b",)), ('"' + "x" * 100 + '"', ("x" * 100,)), ('"#"', ("#",))]:
            self.assertEqual(read_event("0 remove folder " + written), ("program", 0, ("remove", ("folder", path))))
            self.assertEqual(read_event("0 wish fetch " + written), ("wish", 0, ("fetch", path)))
        for written in ['"/"', '"/a"', '"a/"', '"a//b"', '"."', '".."', '"a/."', '"../a"', r'"a\nb"', r'"\n"', '"a\tb"',
                        '"' + "x" * 101 + '"', "a", "folder"]:
            self.none("0 remove folder " + written, "0 wish fetch " + written, "0 wish restore 1 " + written,
                      f"0 wish put_away {written} 1", f'0 make in 3 {written} "x" runs', f'0 rename folder "a" folder {written}')
        # A text need not be the text of a path.
        self.assertEqual(read_event('0 make folder "a" "a//b" runs')[2][2], "a//b")

    def test_spots_and_targets(self):
        self.none('0 make thing 3 "x" runs', "0 remove thing 3", "0 open thing 3", "0 make_folder thing 3", '0 rename thing 3 folder "a"',
                  '0 rename folder "a" thing 3', '0 cut 3', '0 read "a"', '0 read in "a"', '0 read in 3', '0 read in 3 4', '0 read thing "a"',
                  "0 read thing", "0 read folder", "0 read folder a", '0 close thing 3', '0 close folder "a"', '0 read Folder "a"',
                  '0 remove shelf "a"', '0 read in "3" "a"', '0 read x 3 "a"', '0 remove thing 3 "a"', '0 read folder 3 "a"')

    def test_kinds_of_values(self):
        event = read_event('0 make folder "a" "x" runs')
        self.assertIs(event[2][3], True)
        self.assertIs(read_event("0 set_runs thing 1 plain")[2][2], False)
        self.assertIs(type(event), tuple)
        self.assertIs(type(event[2][1][1]), tuple)

    def test_what_there_is_does_not_matter(self):
        self.assertEqual(read_event("4294967295 speak 4294967295"), ("speak", 4294967295, 4294967295))

    def test_a_remark_has_no_form(self):
        self.none("#", "# 0 step", "#0 step")

    def test_the_examples(self):
        self.assertEqual(read_event('0 write thing 3 1 "x"'), ('program', 0, ('write', 3, 1, 'x')))
        self.assertTrue(read_event("0  step") is None)


class Scripts(unittest.TestCase):
    def test_the_lines_that_say_something(self):
        self.assertEqual(read_events("0 step\n1 step"), [(1, ("step", 0)), (2, ("step", 1))])
        self.assertEqual(read_events("0 step\n"), [(1, ("step", 0))])
        self.assertEqual(read_events("\n\n# x\n0 step\n#\n\n#0  step\n1 crash\n"), [(4, ("step", 0)), (8, ("crash", 1))])
        for text in ["", "\n", "\n\n\n", "#", "# anything \" \\ 00\n#x"]:
            self.assertEqual(read_events(text), [])

    def test_all_forms(self):
        text = "\n".join([line for line, _ in FORMS])
        self.assertEqual(read_events(text), [(at + 1, event) for at, (_, event) in enumerate(FORMS)])

    def wrong(self, text, number):
        with self.assertRaises(NoScript, msg=repr(text)) as caught:
            read_events(text)
        self.assertEqual(caught.exception.line, number)
        net = Net([Rule(), Rule()])
        before = looks(net)
        with self.assertRaises(NoScript) as caught:
            run_script(net, text)
        self.assertEqual(caught.exception.line, number)
        self.assertEqual(looks(net), before)

    def test_the_first_wrong_line(self):
        good = '0 make folder "a" "x" runs'
        self.wrong("x", 1)
        self.wrong(" ", 1)
        self.wrong(" # x", 1)
        self.wrong(good + "\n" + good + "\n0  step\n00 step", 3)
        self.wrong("\n#\n" + good + "\n\n 0 step\n" + good, 5)
        self.wrong(good + "\r\n", 1)
        self.wrong(good + "\n\t\n", 2)
        self.wrong(good + "\n0 wish scan\n0 step\n0 make folder \"b\" \"x\ny\" runs", 4)

    def test_nothing_happens_if_a_later_line_is_wrong(self):
        self.wrong('9 step\n0 make folder "a" "x" runs\nx', 3)


class Runs(unittest.TestCase):
    def run_it(self, text, many=2):
        net = Net([Rule() for _ in range(many)])
        return run_script(net, text), net

    def test_all_happened(self):
        for text in ["", "# x\n\n", "0 step", "0 step\n1 step\n", "1 crash"]:
            self.assertIsNone(self.run_it(text)[0])

    def test_a_course(self):
        result, net = self.run_it("\n".join([
            '# Two devices', '0 make folder "a.txt" "one" plain', '', '0 wish scan', *["0 step"] * 6, "0 speak 1", "deliver 0",
            "1 step", "1 speak 0", "deliver 0", "deliver 0", "0 step", "deliver 0", *["1 step"] * 9,
        ]))
        self.assertIsNone(result)
        self.assertEqual(net.hosts[1].tree(), [(("a.txt",), "file", 1, 0, 0, "one", False)])

    def test_each_event_is_the_one_of_the_net(self):
        start = '0 make folder "a" "one" runs\n0 make_folder folder "d"\n0 open folder "d"\n0 open folder "a"\n0 wish scan\n'
        for number, line in enumerate([
            '0 make in 2 "x" "t" plain', '0 make_folder outside "o"', '0 make_other folder "x"', '0 remove folder "a"',
            '0 remove_folder folder "d"', '0 rename folder "a" folder "d/b"', '0 cut thing 1', '0 write folder "a" 1 "zz"',
            '0 set_runs folder "a" plain', '0 read thing 1', '0 close 1', '0 step', '0 refuse', '0 unanswered', '0 crash',
            '1 wish scan', '0 speak 1',
        ]):
            _, net = self.run_it(start)
            _, other = self.run_it(start)
            self.assertIsNone(run_script(net, line))
            event = read_event(line)
            if event[0] in ("program", "wish", "speak"):
                getattr(other, event[0])(*event[1:])
            else:
                getattr(other, event[0])(event[1])
            self.assertEqual(looks(net), looks(other), line)
            before = looks(self.run_it(start)[1])
            self.assertNotEqual(looks(net), before, number)

    def test_letters(self):
        for word in ["deliver", "lose", "again"]:
            _, net = self.run_it("0 speak 1\n1 speak 0")
            _, other = self.run_it("0 speak 1\n1 speak 0")
            self.assertIsNone(run_script(net, word + " 1"))
            getattr(other, word)(1)
            self.assertEqual(looks(net), looks(other))

    def test_the_other_wishes(self):
        text = '0 make folder "a" "one" runs\n0 wish scan\n' + "0 step\n" * 6
        _, net = self.run_it(text + '0 wish put_away "a" 1\n0 wish fetch "a"\n0 wish trim 0\n0 wish put_away "a" 1')
        self.assertEqual((net.keepers[0].state.asking, net.keepers[0].state.next_number), ([((1, 0), 1, 1)], 2))
        self.assertEqual(self.run_it(text + '0 wish restore 0 "a"')[0], 9)

    def test_events_that_are_not_possible(self):
        for line in ["2 step", "0 speak 2", "0 speak 0", "0 refuse", "0 unanswered", "deliver 0", "lose 0", "again 7", "2 crash",
                     '0 remove folder "a"', "0 close 1", '0 cut thing 1', '0 make folder "" "x" runs', '0 wish fetch "a"',
                     '0 wish put_away "a" 1', '0 wish restore 0 "a"', "5 wish scan", '7 make folder "a" "x" runs']:
            result, net = self.run_it("# x\n\n" + line + '\n0 make folder "z" "z" runs\n')
            self.assertEqual(result, 3, line)
            # That line changes nothing, and no later line happens.
            self.assertEqual(looks(net), looks(Net([Rule(), Rule()])), line)

    def test_what_happened_before_has_happened(self):
        result, net = self.run_it('0 make folder "a" "x" runs\n0 make folder "b" "y" runs\n0 make folder "a" "z" runs\n0 crash')
        self.assertEqual(result, 3)
        self.assertEqual([row[5] for row in net.hosts[0].tree()], ["x", "y"])

    def test_a_step_that_asks_for_nothing_is_possible(self):
        self.assertIsNone(self.run_it("0 step\n0 step")[0])

    def test_a_form_is_not_a_device(self):
        with self.assertRaises(NoSuchDevice):
            Net([Rule()]).step(4)
        self.assertEqual(self.run_it("4 step")[0], 1)


if __name__ == "__main__":
    unittest.main()
