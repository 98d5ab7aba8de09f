"""Programs in which objects call one another while they are carried about."""

from portage.checks import check_program
from portage.compiler import compile_program
from portage.reader import read_program

# One process, one print.
SHORT = "start { print 4; return 5; }"

# An object that is moved, and called where it is.
COUNTER = """
interface Counter { add(int): int; }
maker Cell() {
  field n: int;
  op add(k: int): int { n = n + k; return n; }
}
start {
  let c: Counter = new Cell();
  move c to 1;
  c.add(3);
  move c to 2;
  print c.add(4);
  return c.add(5);
}
"""

# Several processes call an object that each of them sends on, with one that is attached to it.
ROVING = """
interface Log { note(int): int; }
interface Work { go(int): int; }
maker Book() {
  field many: int;
  op note(k: int): int { many = many + k; print many; return many; }
}
maker Hand(attached book: Log, other: Work) {
  field seen: int;
  op go(k: int): int {
    if k < 1 { return book.note(1); }
    move self to k;
    seen = seen + 1;
    if not other == nil { return other.go(k - 1) + book.note(k); }
    return self.go(k - 1) + book.note(10);
  }
}
start {
  let b: Log = new Book();
  let w: Work = new Hand(b, nil);
  let v: Work = new Hand(b, w);
  fork w.go(3);
  fork v.go(4);
  move b to 2;
  fork v.go(2);
  return v.go(3) + b.note(100);
}
"""

# Objects that nobody reaches any more, rings among them, are left at all places.
LEAVING = """
interface Link { join(Link): int; go(int): Link; }
maker Node() {
  field next: Link;
  op join(other: Link): int { next = other; return 0; }
  op go(k: int): Link {
    let a: Link = new Node();
    let b: Link = new Node();
    a.join(b);
    b.join(a);
    move a to k;
    move b to k + 1;
    move self to k + 2;
    if k < 1 { return a; }
    next = b;
    return self.go(k - 1);
  }
}
start {
  let n: Link = new Node();
  fork n.go(2);
  fork new Node().go(1);
  print n.go(3);
  n = nil;
  return 0;
}
"""

# Two processes leave a ring behind at each turn, and keep the last one for a while.
CHURN = """
interface Link { join(Link): int; turn(int): int; }
maker Node() {
  field next: Link;
  op join(other: Link): int { next = other; return 0; }
  op turn(k: int): int {
    let a: Link = nil;
    let b: Link = nil;
    while 0 < k {
      a = new Node();
      b = new Node();
      a.join(b);
      b.join(a);
      next = b;
      move a to k;
      k = k - 1;
    }
    return 0;
  }
}
start {
  let n: Link = new Node();
  fork n.turn(30);
  return new Node().turn(30);
}
"""

# Many processes call one another in objects that they send about.
SWARM = """
interface Bee { fly(int): int; meet(Bee, int): int; }
maker Bug(n: int) {
  op fly(k: int): int {
    while 0 < k { move self to n; n = n + k; k = k - 1; }
    return n;
  }
  op meet(b: Bee, k: int): int {
    if k < 1 { return n; }
    move b to k;
    n = n + 1;
    return b.meet(self, k - 1) + 1;
  }
}
start {
  let a: Bee = new Bug(1);
  let b: Bee = new Bug(2);
  let c: Bee = new Bug(3);
  fork a.fly(5);
  fork b.fly(4);
  fork a.meet(b, 4);
  fork b.meet(c, 5);
  fork c.meet(a, 6);
  fork c.fly(3);
  move a to 1;
  return a.meet(c, 3);
}
"""

# It never ends, and never makes anything but prints.
ENDLESS = "start { let k: int = 0; while k < 1 { print k; } return 0; }"

# Each way to a fault, in processes of their own.
FAULTS = """
interface I { large(int): int; none(I): int; gone(I): int; }
maker M() {
  op large(k: int): int { return k * k; }
  op none(x: I): int { return x.large(2); }
  op gone(x: I): int { move self to 1; move x to 2; return 1; }
}
start {
  let m: I = new M();
  fork m.large(1000001);
  fork m.none(nil);
  fork m.gone(nil);
  move m to 1;
  return m.large(1000000);
}
"""

ALL = {"short": SHORT, "counter": COUNTER, "roving": ROVING, "leaving": LEAVING, "churn": CHURN, "swarm": SWARM, "endless": ENDLESS, "faults": FAULTS}


def compiled(text):
    """The image of a good program."""
    program = read_program(text)
    check_program(program)
    return compile_program(program)
