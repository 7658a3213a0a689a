"""What the tests share: texts as lists of bytes, and a case that judges them."""

import unittest

from waletexts.patterns import judge

SCARF = """pattern scarf;
sizes s, m;
let n = 20, 24;
word rib = k, p;
block edge {
  row rs (k, p) to end;
}
on n*2+2;
work edge 2;
row ws sl, rib 3, (yo, ssk) to last 2, k 2;
"""

# One text with every head, stat, item, unit, lone and goal, cut into its tokens by single blanks.
EVERYTHING = (
    "pattern all ; sizes s , m ; yarns red , blue ; let n = 20 , 24 ; let o = ( n + 2 ) * 3 / 4 - n ; "
    "word rib = k , p 2 ; word both = rib n , ( rib , k2tog ) to end ; block none { } "
    "block edge { on 3 ; row rs ( k , p ) to end ; repeat 2 { off ; } work none ; } "
    "on n * 2 + 2 ; on 7 round ; row k ; row rs cl 1 / 16 , cr 2 / 2 3 , hold h , hold h 2 , hold h to end ; "
    "row ws k to last 2 * n , p to mark a , both ( 1 + 1 ) , take h , yarn red , mark a , pass a , clear a , "
    "turn , fasten ; until n { work edge 2 ; work edge n ; work edge ( 3 ) ; } repeat 0 { } off ;"
)

PLAIN = (
    "k p ktbl ptbl yo k2tog k3tog ssk sssk p2tog ssp cdd kfb pfb kp m1l m1r sl slf pso even co bo"
).split()
RESERVED = (
    "pattern sizes yarns let word block on round row rs ws repeat until work off to end last mark cl cr "
    "hold take yarn pass clear turn fasten"
).split()


def codes(text):
    return list(text.encode("latin-1"))


def name(number):
    """A name of three letters, another one for each number below 17,576; none is a word of the language."""
    return "x" + "".join(chr(97 + number // step % 26) for step in (676, 26, 1))


def names(amount):
    return [name(number) for number in range(amount)]


class JudgeCase(unittest.TestCase):
    def right(self, text):
        self.assertEqual(judge(codes(text)), [0], text)

    def fault(self, kind, marked):
        """The text, in which an @ stands before the fault's place, is refused with that kind."""
        before, behind = marked.split("@")
        self.assertEqual(judge(codes(before + behind)), [-kind, len(before)], marked)
