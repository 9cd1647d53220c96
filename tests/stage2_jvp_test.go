package tests

import (
	"testing"

	"loop.example/s08086/impl"
)

// jvpCase asks for a derivative in a direction; more are the values put behind, written out by hand.
type jvpCase struct {
	name    string
	g       impl.Graph
	s, x, d int
	at      int
	more    []impl.Val
}

func checkJvps(t *testing.T, cases []jvpCase) {
	t.Helper()
	for _, c := range cases {
		got, at, code := impl.Jvp(c.g, c.s, c.x, c.d)
		checkDerivative(t, c.name, got, at, code, behind(c.g, c.more), c.at)
	}
}

// P5: each Op of the table as s itself, with a length of 3 where it may have one; the direction is input 2 or 3.
func TestJvpEachOpAtTheEnd(t *testing.T) {
	of := func(op, a, b, c int) impl.Graph { return triples(val(op, 3, a, b, c)) }
	zeros := constant(3, 0)
	sub := val(impl.OpSub, 3, 0, 1, 0)
	checkJvps(t, []jvpCase{
		{"add A", of(impl.OpAdd, 0, 1, 0), 4, 0, 2, 2, nil},
		{"add B", of(impl.OpAdd, 0, 1, 0), 4, 1, 2, 2, nil},
		{"sub A", of(impl.OpSub, 0, 1, 0), 4, 0, 2, 2, nil},
		{"sub B", of(impl.OpSub, 0, 1, 0), 4, 1, 2, 5, []impl.Val{val(impl.OpNeg, 3, 2, 0, 0)}},
		{"mul A", of(impl.OpMul, 0, 1, 0), 4, 0, 2, 5, []impl.Val{val(impl.OpMul, 3, 2, 1, 0)}},
		{"mul B", of(impl.OpMul, 0, 1, 0), 4, 1, 2, 5, []impl.Val{val(impl.OpMul, 3, 0, 2, 0)}},
		{"div A", of(impl.OpDiv, 0, 1, 0), 4, 0, 2, 5, []impl.Val{val(impl.OpDiv, 3, 2, 1, 0)}},
		{"div B", of(impl.OpDiv, 0, 1, 0), 4, 1, 2, 7,
			[]impl.Val{val(impl.OpMul, 3, 4, 2, 0), val(impl.OpDiv, 3, 5, 1, 0), val(impl.OpNeg, 3, 6, 0, 0)}},
		{"neg", of(impl.OpNeg, 1, 0, 0), 4, 1, 2, 5, []impl.Val{val(impl.OpNeg, 3, 2, 0, 0)}},
		{"max A", of(impl.OpMax, 0, 1, 0), 4, 0, 2, 7, []impl.Val{sub, zeros, val(impl.OpSel, 3, 5, 2, 6)}},
		{"max B", of(impl.OpMax, 0, 1, 0), 4, 1, 2, 7, []impl.Val{sub, zeros, val(impl.OpSel, 3, 5, 6, 2)}},
		{"sel A", of(impl.OpSel, 0, 1, 2), 4, 0, 2, 5, []impl.Val{zeros}},
		{"sel B", of(impl.OpSel, 0, 1, 2), 4, 1, 2, 6, []impl.Val{zeros, val(impl.OpSel, 3, 0, 2, 5)}},
		{"sel C", of(impl.OpSel, 0, 1, 2), 4, 2, 1, 6, []impl.Val{zeros, val(impl.OpSel, 3, 0, 5, 1)}},
		{"sum", triples(val(impl.OpSum, 1, 1, 0, 0)), 4, 1, 2, 5, []impl.Val{val(impl.OpSum, 1, 2, 0, 0)}},
		{"fill", of(impl.OpFill, 3, 0, 0), 4, 3, 3, 5, []impl.Val{val(impl.OpFill, 3, 3, 0, 0)}},
		{"pick", triples(val(impl.OpPick, 1, 1, 0, 2)), 4, 1, 2, 5, []impl.Val{val(impl.OpPick, 1, 2, 0, 2)}},
		{"put", of(impl.OpPut, 3, 0, 2), 4, 3, 3, 5, []impl.Val{val(impl.OpPut, 3, 3, 0, 2)}},
		{"exp", of(impl.OpExp, 1, 0, 0), 4, 1, 2, 5, []impl.Val{val(impl.OpMul, 3, 2, 4, 0)}},
		{"input", triples(), 1, 1, 2, 2, nil},
		{"input, another", triples(), 2, 1, 0, 4, []impl.Val{zeros}},
		{"const", triples(constant(3, 7)), 4, 4, 0, 0, nil},
		{"const, by an input", triples(constant(1, 7)), 4, 1, 2, 5, []impl.Val{constant(1, 0)}},
	})
}

// between turns a value ahead of the Op and behind it: value 5 is the Op, its operand 4 moves by value 7.
func between(op, n, a, b, c int) impl.Graph {
	return triples(val(impl.OpNeg, 3, 0, 0, 0), val(op, n, a, b, c), val(impl.OpNeg, n, 5, 0, 0))
}

// thenTurned is what is put behind: the move of 4, these, and the move of 6 from the last of them.
func thenTurned(n int, more ...impl.Val) []impl.Val {
	out := append([]impl.Val{val(impl.OpNeg, 3, 2, 0, 0)}, more...)
	return append(out, val(impl.OpNeg, n, 6+len(out), 0, 0))
}

// P5: each Op in the middle of the way.
func TestJvpEachOpInTheMiddle(t *testing.T) {
	zeros := constant(3, 0)
	checkJvps(t, []jvpCase{
		{"add A", between(impl.OpAdd, 3, 4, 1, 0), 6, 0, 2, 8, thenTurned(3)},
		{"add B", between(impl.OpAdd, 3, 1, 4, 0), 6, 0, 2, 8, thenTurned(3)},
		{"sub A", between(impl.OpSub, 3, 4, 1, 0), 6, 0, 2, 8, thenTurned(3)},
		{"sub B", between(impl.OpSub, 3, 1, 4, 0), 6, 0, 2, 9, thenTurned(3, val(impl.OpNeg, 3, 7, 0, 0))},
		{"mul A", between(impl.OpMul, 3, 4, 1, 0), 6, 0, 2, 9, thenTurned(3, val(impl.OpMul, 3, 7, 1, 0))},
		{"mul B", between(impl.OpMul, 3, 1, 4, 0), 6, 0, 2, 9, thenTurned(3, val(impl.OpMul, 3, 1, 7, 0))},
		{"div A", between(impl.OpDiv, 3, 4, 1, 0), 6, 0, 2, 9, thenTurned(3, val(impl.OpDiv, 3, 7, 1, 0))},
		{"div B", between(impl.OpDiv, 3, 1, 4, 0), 6, 0, 2, 11,
			thenTurned(3, val(impl.OpMul, 3, 5, 7, 0), val(impl.OpDiv, 3, 8, 4, 0), val(impl.OpNeg, 3, 9, 0, 0))},
		{"neg", between(impl.OpNeg, 3, 4, 0, 0), 6, 0, 2, 9, thenTurned(3, val(impl.OpNeg, 3, 7, 0, 0))},
		{"max A", between(impl.OpMax, 3, 4, 1, 0), 6, 0, 2, 11, thenTurned(3, val(impl.OpSub, 3, 4, 1, 0), zeros, val(impl.OpSel, 3, 8, 7, 9))},
		{"max B", between(impl.OpMax, 3, 1, 4, 0), 6, 0, 2, 11, thenTurned(3, val(impl.OpSub, 3, 1, 4, 0), zeros, val(impl.OpSel, 3, 8, 9, 7))},
		{"sel A", between(impl.OpSel, 3, 4, 1, 2), 6, 0, 2, 8, []impl.Val{val(impl.OpNeg, 3, 2, 0, 0), zeros}},
		{"sel B", between(impl.OpSel, 3, 1, 4, 2), 6, 0, 2, 10, thenTurned(3, zeros, val(impl.OpSel, 3, 1, 7, 8))},
		{"sel C", between(impl.OpSel, 3, 1, 2, 4), 6, 0, 2, 10, thenTurned(3, zeros, val(impl.OpSel, 3, 1, 8, 7))},
		{"sum", between(impl.OpSum, 1, 4, 0, 0), 6, 0, 2, 9, thenTurned(1, val(impl.OpSum, 1, 7, 0, 0))},
		{"pick", between(impl.OpPick, 1, 4, 0, 1), 6, 0, 2, 9, thenTurned(1, val(impl.OpPick, 1, 7, 0, 1))},
		{"exp", between(impl.OpExp, 3, 4, 0, 0), 6, 0, 2, 9, thenTurned(3, val(impl.OpMul, 3, 7, 5, 0))},
		{"fill", triples(val(impl.OpNeg, 1, 3, 0, 0), val(impl.OpFill, 4, 4, 0, 0), val(impl.OpSum, 1, 5, 0, 0)), 6, 3, 4, 9,
			[]impl.Val{val(impl.OpNeg, 1, 4, 0, 0), val(impl.OpFill, 4, 7, 0, 0), val(impl.OpSum, 1, 8, 0, 0)}},
		{"put", triples(val(impl.OpNeg, 1, 3, 0, 0), val(impl.OpPut, 4, 4, 0, 3), val(impl.OpNeg, 4, 5, 0, 0)), 6, 3, 4, 9,
			[]impl.Val{val(impl.OpNeg, 1, 4, 0, 0), val(impl.OpPut, 4, 7, 0, 3), val(impl.OpNeg, 4, 8, 0, 0)}},
	})
}

// P5: both operands move, by one move and by two.
func TestJvpBothMove(t *testing.T) {
	of := func(op, a, b, c int) impl.Graph { return between(op, 3, a, b, c) }
	move := val(impl.OpNeg, 3, 2, 0, 0)
	checkJvps(t, []jvpCase{
		{"add", of(impl.OpAdd, 0, 4, 0), 5, 0, 2, 8, []impl.Val{move, val(impl.OpAdd, 3, 2, 7, 0)}},
		{"add, the other way", of(impl.OpAdd, 4, 0, 0), 5, 0, 2, 8, []impl.Val{move, val(impl.OpAdd, 3, 7, 2, 0)}},
		{"sub", of(impl.OpSub, 0, 4, 0), 5, 0, 2, 8, []impl.Val{move, val(impl.OpSub, 3, 2, 7, 0)}},
		{"mul", of(impl.OpMul, 0, 4, 0), 5, 0, 2, 10,
			[]impl.Val{move, val(impl.OpMul, 3, 2, 4, 0), val(impl.OpMul, 3, 0, 7, 0), val(impl.OpAdd, 3, 8, 9, 0)}},
		{"div", of(impl.OpDiv, 0, 4, 0), 5, 0, 2, 11, []impl.Val{move, val(impl.OpDiv, 3, 2, 4, 0),
			val(impl.OpMul, 3, 5, 7, 0), val(impl.OpDiv, 3, 9, 4, 0), val(impl.OpSub, 3, 8, 10, 0)}},
		{"max", of(impl.OpMax, 0, 4, 0), 5, 0, 2, 9, []impl.Val{move, val(impl.OpSub, 3, 0, 4, 0), val(impl.OpSel, 3, 8, 2, 7)}},
		{"sel B C", of(impl.OpSel, 1, 0, 4), 5, 0, 2, 8, []impl.Val{move, val(impl.OpSel, 3, 1, 2, 7)}},
		{"sel A B", of(impl.OpSel, 4, 0, 1), 5, 0, 2, 9, []impl.Val{move, constant(3, 0), val(impl.OpSel, 3, 4, 2, 8)}},
		{"sel A C", of(impl.OpSel, 4, 1, 0), 5, 0, 2, 9, []impl.Val{move, constant(3, 0), val(impl.OpSel, 3, 4, 8, 2)}},
		{"add of itself", of(impl.OpAdd, 4, 4, 0), 5, 0, 2, 8, []impl.Val{move, val(impl.OpAdd, 3, 7, 7, 0)}},
		{"sub of itself", of(impl.OpSub, 4, 4, 0), 5, 0, 2, 8, []impl.Val{move, val(impl.OpSub, 3, 7, 7, 0)}},
		{"mul of itself", of(impl.OpMul, 4, 4, 0), 5, 0, 2, 10,
			[]impl.Val{move, val(impl.OpMul, 3, 7, 4, 0), val(impl.OpMul, 3, 4, 7, 0), val(impl.OpAdd, 3, 8, 9, 0)}},
		{"div of itself", of(impl.OpDiv, 4, 4, 0), 5, 0, 2, 11, []impl.Val{move, val(impl.OpDiv, 3, 7, 4, 0),
			val(impl.OpMul, 3, 5, 7, 0), val(impl.OpDiv, 3, 9, 4, 0), val(impl.OpSub, 3, 8, 10, 0)}},
		{"max of itself", of(impl.OpMax, 4, 4, 0), 5, 0, 2, 9, []impl.Val{move, val(impl.OpSub, 3, 4, 4, 0), val(impl.OpSel, 3, 8, 7, 7)}},
		{"sel of itself", of(impl.OpSel, 4, 4, 4), 5, 0, 2, 8, []impl.Val{move, val(impl.OpSel, 3, 4, 7, 7)}},
	})
}

// P5: s = x, s < x, an s that does not move, and directions that lie anywhere.
func TestJvpWithoutMove(t *testing.T) {
	g := triples(val(impl.OpNeg, 3, 0, 0, 0), val(impl.OpSum, 1, 4, 0, 0), val(impl.OpMul, 3, 4, 1, 0), val(impl.OpSum, 1, 2, 0, 0))
	zeros := constant(3, 0)
	checkJvps(t, []jvpCase{
		{"s = x", g, 4, 4, 1, 1, nil},
		{"s = x = t", g, 6, 6, 6, 6, nil},
		{"s = x, t behind", g, 0, 0, 6, 6, nil},
		{"s < x", g, 0, 4, 1, 8, []impl.Val{zeros}},
		{"s < x, with another length", g, 5, 6, 1, 8, []impl.Val{constant(1, 0)}},
		{"s < x, x of length 1", g, 6, 7, 5, 8, []impl.Val{zeros}},
		{"not reached", g, 7, 1, 2, 9, []impl.Val{val(impl.OpMul, 3, 4, 2, 0), constant(1, 0)}},
		{"t behind s", g, 4, 0, 6, 8, []impl.Val{val(impl.OpNeg, 3, 6, 0, 0)}},
		{"t is x", g, 5, 4, 4, 8, []impl.Val{val(impl.OpSum, 1, 4, 0, 0)}},
		{"t is s", g, 6, 1, 6, 8, []impl.Val{val(impl.OpMul, 3, 4, 6, 0)}},
		{"from the middle", g, 6, 4, 0, 9, []impl.Val{val(impl.OpSum, 1, 0, 0, 0), val(impl.OpMul, 3, 0, 1, 0)}},
	})
}
