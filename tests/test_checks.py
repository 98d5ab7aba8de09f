import unittest

from portage.checks import check_program, returns
from portage.errors import BadKind
from portage.reader import read_program

INTERFACES = """
interface Empty { }
interface Box { get(): int; put(int, Box): Box; }
interface Getter { get(): int; }
interface Other { other(Empty): Empty; }
"""
CELL = """
maker Cell(attached next: Box, n: int) {
  attached field same: Box;
  field many: int = 3;
  op get(): int { return n + many; }
  op put(k: int, b: Box): Box {
    n = k;
    if b == nil { return self; } else { return b.put(k - 1, next); }
  }
}
maker Plain() { }
"""


class Checking(unittest.TestCase):
    def good(self, text):
        self.assertIsNone(check_program(read_program(text)), text)

    def bad(self, text, place):
        with self.assertRaises(BadKind, msg=text) as caught:
            check_program(read_program(text))
        self.assertEqual(caught.exception.place, place, text)

    def good_start(self, *texts):
        for text in texts:
            self.good(INTERFACES + CELL + "start { let b: Box = nil; let g: Getter = nil; let e: Empty = nil; "
                      "let o: Other = nil; let n: int = 1; " + text + " return 0; }")

    def bad_start(self, *texts):
        for text in texts:
            self.bad(INTERFACES + CELL + "start { let b: Box = nil; let g: Getter = nil; let e: Empty = nil; "
                     "let o: Other = nil; let n: int = 1; " + text + " return 0; }", "start")

    def within(self, text):
        return (INTERFACES + CELL + "maker M(p: int, q: Box) { field f: int; field h: Empty; "
                "op get(): int { return p; } op at(a: int, c: Box): Getter { " + text + " } } start { return 0; }")

    def good_op(self, *texts):
        for text in texts:
            self.good(self.within(text + " return self;"))

    def bad_op(self, *texts):
        for text in texts:
            self.bad(self.within(text + " return self;"), "maker M op at")


class Expressions(Checking):
    def test_operators(self):
        for sign in ("+", "-", "*", "<", "<=", "and", "or"):
            self.good_start(f"print n {sign} 1;", f"n = (n {sign} 1);")
            for thing in ("nil", "self", "b", "new Plain()"):
                self.bad_start(f"print ({thing}) {sign} 1;", f"print 1 {sign} {thing};", f"print {thing} {sign} {thing};")
            self.bad_start(f"b = (n {sign} 1);")
        self.good_start("print not n;", "n = not not 1;")
        self.bad_start("print not nil;", "print not b;", "print not self;", "b = not 1;")

    def test_same(self):
        self.good_start("print 1 == n;", "print nil == nil;", "print b == nil;", "print b == e;", "print self == b;",
                        "print new Plain() == b;", "print nil == self;", "n = b == g;", "print (b == g) == 1;",
                        "print new Plain() == new Cell(nil, 1);")
        self.bad_start("print 1 == nil;", "print b == 1;", "print 1 == self;", "print new Plain() == n;", "b = b == b;",
                       "print (b == b) == b;")

    def test_parts_are_looked_into(self):
        self.bad_start("print 1 + (2 + nil);", "print (not nil) == 1;", "print b == new Nowhere();",
                       "print b.put(1 + nil, b);", "print new Cell(b, not b);", "fork b.put(x, b);")

    def test_names(self):
        self.good_start("print n + b.get();")
        self.bad_start("print x;", "print Cell;", "print Box;", "print get;", "print next;")

    def test_nil_and_self(self):
        self.good_start("b = nil;", "o = nil;", "e = nil;", "e = self;")
        self.bad_start("b = self;", "g = self;", "o = self;", "n = self;", "n = nil;")
        self.good_op("let x: Getter = self;", "let x: Empty = self;", "h = self;", "q = nil;")
        self.bad_op("q = self;", "let x: Other = self;", "p = self;", "p = nil;")

    def test_fitting(self):
        self.good_start("g = b;", "e = b;", "e = g;", "e = o;", "e = new Plain();", "b = new Cell(nil, 1);",
                        "g = new Cell(nil, 1);", "b = b;")
        self.bad_start("b = g;", "b = e;", "g = e;", "o = b;", "b = new Plain();", "g = new Plain();", "b = 1;", "n = b;",
                       "n = new Plain();", "e = 1;")

    def test_calls(self):
        self.good_start("print b.get() + 1;", "b = b.put(1, b);", "b.put(n, nil).put(2, new Cell(nil, 1)).get();",
                        "new Cell(nil, 1).get();", "e = o.other(self);", "o.other(b);", "o.other(o.other(nil));",
                        "(new Cell(nil, 1)).put(1, nil).get();")
        self.bad_start("1.get();", "nil.get();", "self.get();", "(1 + 2).get();", "b.other(e);", "e.get();", "g.put(1, nil);",
                       "b.get().get();", "b.next();", "new Plain().get();", "(b == b).get();")

    def test_arguments(self):
        self.bad_start("b.get(1);", "b.put();", "b.put(1);", "b.put(1, b, 1);", "b.put(b, 1);", "b.put(1, 1);",
                       "b.put(nil, b);", "b.put(1, g);", "b.put(1, self);", "o.other(1);", "o.other();")
        self.good_start("b.put(1, nil);")

    def test_results(self):
        self.bad_start("n = b.put(1, b);", "b = b.get();", "o = o.other(nil);", "b = o.other(nil);", "print b.put(1, b) + 1;")

    def test_new(self):
        self.good_start("new Plain();", "new Cell(nil, 1);", "new Cell(new Cell(b, 2), n);")
        self.bad_start("new Nowhere();", "new Box();", "new Empty();", "new Plain(1);", "new Cell();", "new Cell(nil);",
                       "new Cell(nil, 1, 1);", "new Cell(1, nil);", "new Cell(nil, nil);", "new Cell(g, 1);",
                       "new Cell(self, 1);", "new Cell(new Plain(), 1);", "new n();")

    def test_self_in_an_operation(self):
        self.good_op("self.get();", "self.at(1, nil).get();", "p = self.get();", "print self == c;", "move self to 1;",
                     "fork self.at(self.get(), c);", "print self;")
        self.bad_op("self.put(1, nil);", "self.get(1);", "self.at(nil, 1);", "print self + 1;", "p = self.at(1, nil);")

    def test_makers_have_operations_that_no_interface_has(self):
        self.good_start("new Cell(nil, 1).get();")
        self.good("maker M() { op own(): int { return 1; } } start { return new M().own(); }")
        self.good("interface E { } maker M() { op me(): E { return self; } } start { print new M().me(); return 0; }")
        self.bad("interface E { } maker M() { op me(): E { return self; } } start { return new M().me().me(); }", "start")


class Names(Checking):
    def test_where_names_are_known(self):
        self.good_start("let x: int = 1; print x;", "let x: int = 1; if x { print x; } else { x = 2; }",
                        "if n { let x: int = 1; print x; }", "let x: int = 1; while x { if x { print x + n; } }")
        self.bad_start("print x; let x: int = 1;", "x = 1; let x: int = 1;", "let x: int = x;",
                       "if n { let x: int = 1; } print x;", "if n { let x: int = 1; } else { print x; }",
                       "while n { let x: int = 1; } x = 2;", "while x { let x: int = 1; }", "if n { print x; let x: int = 1; }",
                       "if x { let x: int = 1; }", "if n { let x: int = 1; } if n { x = 2; }")

    def test_in_operations(self):
        self.good_op("print p + f + a;", "p = 1; f = 2; a = 3; q = c; h = c; c = q;", "let x: int = p; x = a;")
        self.bad_op("print k;", "print n;", "print next;", "k = 1;", "print at;", "print M;")
        self.bad("maker M(p: int) { op f(a: int): int { return 1; } op g(): int { return a; } } start { return 0; }",
                 "maker M op g")
        self.bad("maker M(p: int) { op f(): int { return 1; } } start { return p; }", "start")
        self.bad("maker M(p: int) { op f(): int { return 1; } } maker N() { op f(): int { return p; } } start { return 1; }",
                 "maker N op f")

    def test_twice_in_a_maker(self):
        for head in ("maker M(a: int, a: int) { }", "maker M(a: int) { field a: int; }",
                     "maker M() { field a: int; field b: int; field a: int; }"):
            self.bad(head + " start { return 0; }", "maker M")

    def test_twice_in_an_operation(self):
        self.bad_op("let p: int = 1;", "let f: int = 1;", "let h: Empty = nil;", "let a: int = 1;", "let c: Box = nil;",
                    "let x: int = 1; let x: int = 2;", "if p { let x: int = 1; } let x: int = 2;",
                    "if p { let x: int = 1; } else { let x: int = 1; }", "while p { let x: int = 1; } if p { let x: int = 1; }",
                    "if p { if p { let a: int = 1; } }", "let x: int = 1; while p { let x: int = 1; }")
        for params in ("p: int", "f: int", "x: int, x: int", "h: int, y: int"):
            self.bad("maker M(p: int) { field f: int; field h: int; op at(" + params + "): int { return 1; } } "
                     "start { return 0; }", "maker M op at")

    def test_twice_in_the_start_block(self):
        self.bad_start("let n: int = 1;", "if n { let n: int = 1; }", "let x: int = 1; let x: Box = nil;",
                       "if n { let x: int = 1; } let x: int = 2;", "if n { let x: int = 1; } else { let x: int = 1; }")
        self.good_start("let next: int = 1; let many: int = 2; let k: int = next;", "let Cell: int = 1; new Cell(b, Cell);",
                        "let get: int = 1; let Box: Box = b; print Box.get() + get;")

    def test_the_same_name_in_different_operations(self):
        self.good("maker M() { op f(a: int): int { let x: int = a; return x; } op g(a: int): int { let x: int = a; return x; } "
                  "op a(): int { return 1; } } start { let a: int = 1; return a; }")
        self.good("maker M(f: int) { op f(): int { return f; } } start { return 0; }")


class Statements(Checking):
    def test_let_and_set(self):
        self.good_start("let x: Box = b;", "let x: Getter = b;", "let x: int = b.get();", "n = 2;", "let x: Empty = self;")
        self.bad_start("let x: int = nil;", "let x: Box = 1;", "let x: Box = g;", "n = nil;", "b = 1;", "b = g;",
                       "let x: Nowhere = nil;", "let x: Cell = nil;", "let x: Cell = new Cell(nil, 1);", "let x: n = 1;")

    def test_conditions(self):
        for word in ("if", "while"):
            self.good_start(word + " 1 { }", word + " b == nil { print 1; }")
            self.bad_start(word + " b { }", word + " nil { }", word + " self { }", word + " new Plain() { }",
                           word + " 1 { print x; }", word + " 1 { n = nil; }")
        self.bad_start("if 1 { } else { print x; }", "if 1 { } else { n = nil; }", "if 1 { while 1 { if 1 { 1 + nil; } } }")

    def test_return(self):
        self.good_start("if 1 { return n; }")
        self.bad_start("if 1 { return b; }", "if 1 { return nil; }", "if 1 { return self; }", "while 1 { return b; }")
        self.good("interface I { } maker M() { op f(): I { return self; } op g(): I { return nil; } "
                  "op h(i: I): I { return i; } op k(): int { return 1; } } start { return 0; }")
        for text in ("I { return 1; }", "int { return nil; }", "int { return self; }", "J { return self; }", "J { return i; }",
                     "I { if 1 { return 1; } return nil; }"):
            self.bad("interface I { } interface J { j(): int; } maker M(i: I) { op f(): " + text + " } start { return 0; }",
                     "maker M op f")
        self.bad("start { return nil; }", "start")
        self.bad("start { return self; }", "start")

    def test_print_and_do(self):
        for thing in ("1", "nil", "self", "b", "new Plain()", "b.get()", "b.put(1, b)", "not 1"):
            self.good_start(f"print {thing};", f"{thing};")
        self.bad_start("print x;", "x;", "print b.x();", "1 + nil;")

    def test_move(self):
        self.good_start("move b to 1;", "move nil to n;", "move self to 0 - 5;", "move new Plain() to b.get();")
        self.bad_start("move 1 to 1;", "move n to 1;", "move b to b;", "move b to nil;", "move b to self;",
                       "move b.get() to 1;", "move b to new Plain();")

    def test_fork(self):
        self.good_start("fork b.get();", "fork b.put(1, b);", "fork new Cell(nil, 1).get();", "fork b.put(1, b).get();")
        self.bad_start("fork n.get();", "fork nil.get();", "fork self.get();", "fork b.other(e);", "fork b.put(1);",
                       "fork b.put(b, 1);", "fork b.get(1);", "fork e.get();", "fork g.put(1, nil);", "fork x.get();")


class Returning(Checking):
    def test_returns(self):
        ends = {"": False, "return 1;": True, "1;": False, "return 1; 1;": False, "1; return 1;": True,
                "if 1 { return 1; } else { return 2; }": True, "if 1 { return 1; }": False,
                "if 1 { return 1; } else { 1; }": False, "if 1 { } else { return 1; }": False,
                "while 1 { return 1; }": False, "if 1 { return 1; } return 2;": True,
                "if 1 { return 1; } else { return 2; } 1;": False,
                "if 1 { if 1 { return 1; } else { return 2; } } else { 1; return 2; }": True,
                "if 1 { if 1 { return 1; } } else { return 2; }": False, "print 1;": False}
        for text, expected in ends.items():
            self.assertIs(returns(read_program("start { " + text + " }")[2]), expected, text)

    def test_blocks(self):
        for text in ("", "1;", "if 1 { return 1; }", "while 1 { return 1; }", "return 1; 1;", "return 1; return 2;",
                     "if 1 { return 1; 2; } return 3;", "while 1 { return 1; print 2; } return 3;",
                     "if 1 { } else { return 1; let x: int = 1; } return 2;", "if 1 { return 1; } else { return 2; } 3;",
                     "return 1; if 1 { return 1; } else { return 2; }",
                     "if 1 { while 1 { return 1; return 2; } } else { return 1; } return 5;"):
            self.bad("start { " + text + " }", "start")
            self.bad("maker M() { op f(): int { " + text + " } } start { return 0; }", "maker M op f")
        for text in ("return 1;", "if 1 { return 1; } else { return 2; }", "while 1 { return 1; } return 2;",
                     "if 1 { return 1; } return 2;", "if 1 { return 1; } else { return 2; } 3; return 4;"):
            self.good("start { " + text + " }")
            self.good("maker M() { op f(): int { " + text + " } } start { return 0; }")


class Places(Checking):
    REST = " start { return 0; }"

    def test_examples(self):
        self.good("interface A { f(A): B; } interface B { f(B): A; } start { return 1; }")
        self.bad("maker M(n: int) { op get(): int { return n; } } start { let m: M = new M(1); return 0; }", "start")
        self.good("interface I { get(): int; } maker M(n: int) { op get(): int { return n; } } "
                  "start { let m: I = new M(1); return m.get(); }")

    def test_names(self):
        for text in ("interface A { } interface A { }", "maker A() { } maker A() { }", "interface A { } maker A() { }",
                     "interface B { } interface A { } maker C() { } maker B() { }"):
            self.bad(text + self.REST, "names")

    def test_interfaces(self):
        for text in ("f(): int; f(): int;", "f(): int; f(int): int;", "f(): Nowhere;", "f(Nowhere): int;", "f(int, M): int;",
                     "f(): M;", "g(): int; f(): int; g(): I;"):
            self.bad("interface A { } interface I { " + text + " } maker M() { }" + self.REST, "interface I")
        self.good("interface A { f(I, A): I; } interface I { f(int): A; }" + self.REST)

    def test_makers(self):
        for text in ("M(a: Nowhere) { }", "M(a: M) { }", "M(a: N) { }", "M() { field a: Nowhere; }", "M() { field a: M; }",
                     "M() { op f(): Nowhere { return nil; } }", "M() { op f(): M { return nil; } }",
                     "M() { op f(a: Nowhere): int { return 1; } }", "M() { op f(a: int, b: M): int { return 1; } }",
                     "M() { op f(): int { return 1; } op f(): int { return 1; } }",
                     "M() { op f(): int { return 1; } op f(a: int): int { return 1; } }"):
            self.bad("interface A { } maker L() { } maker " + text + " maker N() { }" + self.REST, "maker M")

    def test_the_first_place_counts(self):
        faults = (("names", "interface A { } ", "interface A { } interface A { } "),
                  ("interface B", "interface B { } ", "interface B { f(): X; } "),
                  ("interface C", "interface C { } ", "interface C { f(): int; f(): int; } "),
                  ("maker M", "maker M() { ", "maker M(a: X) { "),
                  ("maker M op f", "op f(): int { return 1; } ", "op f(): int { return nil; } "),
                  ("maker M op g", "op g(): int { return 1; } } ", "op g(): int { } } "),
                  ("maker N", "maker N() { ", "maker N(a: int) { field a: int; "),
                  ("maker N op f", "op f(): int { return 1; } } ", "op f(a: int, a: int): int { return 1; } } "),
                  ("start", "start { return 1; }", "start { return x; }"))
        self.good("".join([part[1] for part in faults]))
        for first in range(len(faults)):
            self.bad("".join([part[2] if k == first else part[1] for k, part in enumerate(faults)]), faults[first][0])
            for second in range(first + 1, len(faults)):
                text = "".join([part[2] if k in (first, second) else part[1] for k, part in enumerate(faults)])
                self.bad(text, faults[first][0])

    def test_makers_that_come_later(self):
        text = ("interface I { f(): int; } maker A() { op g(): int { let i: I = new B(); return i.f(); } } maker B() { BODY }"
                + self.REST)
        self.good(text.replace("BODY", "op f(): int { return 1; }"))
        self.bad(text.replace("BODY", "op f(): X { return 1; }"), "maker A op g")
        self.bad(text.replace("BODY", "op f(): int { return 1; } op g(): X { return 1; }"), "maker B")
        self.bad(text.replace("BODY", "op f(): int { return nil; }"), "maker B op f")
        text = text.replace("let i: I = new B(); return i.f();", "new B().f(); return 1;")
        self.good(text.replace("BODY", "op f(): I { return nil; }"))
        self.bad(text.replace("BODY", "op f(): X { return nil; }"), "maker A op g")
        self.bad(text.replace("BODY", "op f(): B { return nil; }"), "maker B")

    def test_an_operation_may_be_called_like_others(self):
        self.bad("maker start1() { op start1(): int { return nil; } }" + self.REST, "maker start1 op start1")

    def test_large_good_programs(self):
        self.good(INTERFACES + CELL + "maker M(p: int) { field f: Box; op run(b: Box): Box { let x: int = 0; while x < p { "
                  "x = x + 1; if b == nil { f = new Cell(f, x); } else { fork b.put(x, f); move b to x; } } "
                  "if f == nil { return b; } else { return f; } } } "
                  "start { let m: Box = new M(3).run(nil); print m; return m.get() - 1; }")


if __name__ == "__main__":
    unittest.main()
