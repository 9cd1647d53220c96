package tests

import (
	"math"
	"testing"

	"loop.example/s08086/impl"
)

// The constants of chapter 1 with the values of the document's tables.
func TestValueConstants(t *testing.T) {
	codes := []int{impl.CodeOK, impl.CodeBad, impl.CodeSyntax, impl.CodeName, impl.CodeShape, impl.CodeLimit, impl.CodePass, impl.CodeBudget}
	for want, got := range codes {
		if got != want {
			t.Errorf("code %d is %d", want, got)
		}
	}
	ops := []int{impl.OpInput, impl.OpConst, impl.OpAdd, impl.OpSub, impl.OpMul, impl.OpDiv, impl.OpNeg, impl.OpMax, impl.OpSel,
		impl.OpSum, impl.OpFill, impl.OpPick, impl.OpPut, impl.OpExp}
	for want, got := range ops {
		if got != want {
			t.Errorf("operation %d is %d", want, got)
		}
	}
	limits := [][2]int{{impl.MaxIns, 20}, {impl.MaxVals, 2000}, {impl.MaxLen, 1000}, {impl.MaxCells, 50000}, {impl.MaxOuts, 50}}
	for i, l := range limits {
		if l[0] != l[1] {
			t.Errorf("limit %d is %d, want %d", i, l[0], l[1])
		}
	}
}

// wantValid is 1.1's list, read line by line.
func wantValid(g impl.Graph) bool {
	ok := len(g.Ins) <= 20 && len(g.Vals) <= 2000 && len(g.Outs) <= 50
	for _, n := range g.Ins {
		ok = ok && n >= 1 && n <= 1000
	}
	cells := 0
	for i, v := range g.Vals {
		ok = ok && v.Op >= 0 && v.Op <= 13 && v.Len >= 1 && v.Len <= 1000 && wantValidVal(g, v, i)
		if ok {
			cells += v.Len
		}
	}
	for _, o := range g.Outs {
		ok = ok && o >= 0 && o < len(g.Vals)
	}
	return ok && cells <= 50000
}

func wantValidVal(g impl.Graph, v impl.Val, i int) bool {
	if v.Op == impl.OpInput {
		return v.A >= 0 && v.A < len(g.Ins) && g.Ins[v.A] == v.Len && v.B == 0 && v.C == 0
	}
	rule := ruleOf(v.Op)
	lens := []int{}
	for k, field := range []int{v.A, v.B, v.C} {
		isPlace := k == 2 && rule.place
		if k >= rule.operands && !isPlace && field != 0 {
			return false
		}
		if k < rule.operands {
			if field < 0 || field >= i {
				return false
			}
			lens = append(lens, g.Vals[field].Len)
		}
	}
	switch v.Op {
	case impl.OpSum:
		return v.Len == 1
	case impl.OpFill:
		return lens[0] == 1
	case impl.OpPick:
		return v.Len == 1 && v.C >= 0 && v.C < lens[0]
	case impl.OpPut:
		return lens[0] == 1 && v.C >= 0 && v.C < v.Len
	}
	for _, l := range lens {
		if l != v.Len {
			return false
		}
	}
	return true
}

// oneOf answers a valid graph with a value of this Op at index 4, and two more values behind it.
func oneOf(op int) impl.Graph {
	v := impl.Val{Op: op, Len: 3}
	switch ruleOf(op).operands {
	case 1:
		v.A = 1
	case 2:
		v.A, v.B = 1, 2
	case 3:
		v.A, v.B, v.C = 1, 2, 1
	}
	switch op {
	case impl.OpInput:
		v.A = 1
	case impl.OpSum:
		v.Len = 1
	case impl.OpPick:
		v.Len, v.C = 1, 2
	case impl.OpFill:
		v.A = 3
	case impl.OpPut:
		v.A, v.C = 3, 2
	}
	return impl.Graph{Ins: []int{1, 3}, Outs: []int{4, 0, 4}, Vals: []impl.Val{
		val(impl.OpInput, 1, 0, 0, 0), val(impl.OpInput, 3, 1, 0, 0), constant(3, -1), constant(1, 2), v, constant(v.Len, 5), constant(3, 6)}}
}

func checkValid(t *testing.T, g impl.Graph, want bool, what string) {
	t.Helper()
	if got := impl.ValidGraph(g); got != want {
		t.Errorf("%s: %v, want %v", what, got, want)
	}
	if want != wantValid(g) {
		t.Errorf("%s: the test itself is wrong", what)
	}
	code := impl.CodeOK
	inputs := [][]float64{}
	if want {
		inputs = inputsFor(&source{9}, g)
	} else {
		code = impl.CodeBad
	}
	mustPanicNever(t, what, func() {
		if outs, got := impl.Eval(g, inputs); got != code || !want && len(outs) != 0 {
			t.Errorf("%s: Eval answers %d, want %d", what, got, code)
		}
	})
}

func fieldsOf(v *impl.Val) []*int {
	return []*int{&v.A, &v.B, &v.C}
}

// P3: operands are earlier values, whatever the Op and the field.
func TestValidGraphOperands(t *testing.T) {
	for op := impl.OpInput; op <= impl.OpExp; op++ {
		checkValid(t, oneOf(op), true, ruleOf(op).name)
		for k := range ruleOf(op).operands {
			for _, far := range append(farInts(), 4, 5, 6, 7, 8) {
				g := oneOf(op)
				*fieldsOf(&g.Vals[4])[k] = far
				checkValid(t, g, false, ruleOf(op).name+" with a bad operand")
			}
		}
	}
	last := impl.Graph{Vals: []impl.Val{constant(1, 1), val(impl.OpNeg, 1, 0, 0, 0), val(impl.OpAdd, 1, 1, 1, 0)}}
	checkValid(t, last, true, "operands at both ends")
	checkValid(t, impl.Graph{Vals: []impl.Val{val(impl.OpNeg, 1, 0, 0, 0)}}, false, "the first value uses itself")
}

// P3: fields that the table does not name are 0; K may be anything.
func TestValidGraphSpareFields(t *testing.T) {
	for op := impl.OpInput; op <= impl.OpExp; op++ {
		rule := ruleOf(op)
		for k := range 3 {
			if k < rule.operands || k == 2 && rule.place || k == 0 && op == impl.OpInput {
				continue
			}
			for _, far := range append(farInts(), 1, 2, 3) {
				g := oneOf(op)
				*fieldsOf(&g.Vals[4])[k] = far
				checkValid(t, g, false, rule.name+" with a spare field")
			}
		}
		for _, k := range edgeFloats() {
			g := oneOf(op)
			g.Vals[4].K = k
			checkValid(t, g, true, rule.name+" with some K")
		}
	}
}

// P3: each Len that the table does not allow is refused, and so is every other length of an operand.
func TestValidGraphLengths(t *testing.T) {
	for op := impl.OpInput; op <= impl.OpExp; op++ {
		for _, far := range append(farInts(), 0, impl.MaxLen+1) {
			g := oneOf(op)
			g.Vals[4].Len = far
			checkValid(t, g, false, ruleOf(op).name+" with a bad Len")
		}
		for n := 1; n <= 5; n++ {
			g := oneOf(op)
			g.Vals[4].Len = n
			checkValid(t, g, wantValid(g), ruleOf(op).name+" with another Len")
		}
		for k := range ruleOf(op).operands {
			for other := range 4 {
				g := oneOf(op)
				*fieldsOf(&g.Vals[4])[k] = other
				checkValid(t, g, wantValid(g), ruleOf(op).name+" with another operand")
			}
		}
	}
}

func TestValidGraphOps(t *testing.T) {
	for _, op := range append(farInts(), 14, 15, 100) {
		checkValid(t, impl.Graph{Vals: []impl.Val{{Op: op, Len: 1}}}, false, "no operation")
	}
}

// P3: places at both ends, and outside.
func TestValidGraphPlaces(t *testing.T) {
	for _, op := range []int{impl.OpPick, impl.OpPut} {
		for _, place := range []int{0, 1, 2} {
			g := oneOf(op)
			g.Vals[4].C = place
			checkValid(t, g, true, ruleOf(op).name+" at a place")
		}
		for _, place := range append(farInts(), 3, 4, 1000) {
			g := oneOf(op)
			g.Vals[4].C = place
			checkValid(t, g, false, ruleOf(op).name+" at a bad place")
		}
	}
	ends := impl.Graph{Ins: []int{1000}, Vals: []impl.Val{val(impl.OpInput, 1000, 0, 0, 0), val(impl.OpPick, 1, 0, 0, 999), val(impl.OpPut, 1000, 1, 0, 999)}}
	checkValid(t, ends, true, "places at the end of the longest lists")
	ends.Vals[1].C = 1000
	checkValid(t, ends, false, "pick behind the end")
	ends.Vals[1].C, ends.Vals[2].C = 0, 1000
	checkValid(t, ends, false, "put behind the end")
}

// P3: an input's number is that of an input, and its Len the input's.
func TestValidGraphInputs(t *testing.T) {
	for _, number := range append(farInts(), 2, 3) {
		g := oneOf(impl.OpInput)
		g.Vals[4].A = number
		checkValid(t, g, false, "no such input")
	}
	g := oneOf(impl.OpInput)
	g.Vals[4].A = 0
	checkValid(t, g, false, "an input of another length")
	g.Vals[4].Len = 1
	checkValid(t, g, true, "an input that is taken twice")
	checkValid(t, impl.Graph{Vals: []impl.Val{val(impl.OpInput, 1, 0, 0, 0)}}, false, "no input at all")
	for _, n := range append(farInts(), 0, impl.MaxLen+1) {
		checkValid(t, impl.Graph{Ins: []int{n}}, false, "an input's bad length")
		checkValid(t, impl.Graph{Ins: []int{1, n}}, false, "a later input's bad length")
		checkValid(t, impl.Graph{Ins: []int{n}, Vals: []impl.Val{val(impl.OpInput, n, 0, 0, 0)}}, false, "an input's bad length, used")
	}
	checkValid(t, impl.Graph{Ins: []int{1, impl.MaxLen}}, true, "both ends of an input's length")
}

// P3: every limit met exactly is kept, and broken by one more.
func TestValidGraphLimits(t *testing.T) {
	checkValid(t, impl.Graph{}, true, "nothing")
	checkValid(t, impl.Graph{Ins: []int{}, Vals: []impl.Val{}, Outs: []int{}}, true, "empty lists")
	ins := impl.Graph{}
	for range impl.MaxIns {
		ins.Ins = append(ins.Ins, 1)
	}
	ins.Vals = []impl.Val{val(impl.OpInput, 1, impl.MaxIns-1, 0, 0)}
	checkValid(t, ins, true, "MaxIns inputs")
	ins.Ins = append(ins.Ins, 1)
	checkValid(t, ins, false, "one input more")

	vals := impl.Graph{Outs: []int{impl.MaxVals - 1}}
	for range impl.MaxVals {
		vals.Vals = append(vals.Vals, constant(25, 1))
	}
	checkValid(t, vals, true, "MaxVals values and MaxCells elements")
	vals.Vals[7].Len++
	checkValid(t, vals, false, "one element more")
	vals.Vals[7].Len -= 2
	checkValid(t, vals, true, "one element less")
	vals.Vals = append(vals.Vals, constant(1, 1))
	checkValid(t, vals, false, "one value more")

	cells := impl.Graph{}
	for range 50 {
		cells.Vals = append(cells.Vals, constant(impl.MaxLen, 1))
	}
	checkValid(t, cells, true, "fifty of MaxLen")
	cells.Vals = append(cells.Vals, constant(1, 1))
	checkValid(t, cells, false, "fifty of MaxLen and one")
	checkValid(t, impl.Graph{Vals: []impl.Val{constant(impl.MaxLen, 1)}}, true, "one of MaxLen")
	checkValid(t, impl.Graph{Vals: []impl.Val{constant(impl.MaxLen+1, 1)}}, false, "one of MaxLen and one")

	outs := impl.Graph{Vals: []impl.Val{constant(1, 1)}, Outs: make([]int, impl.MaxOuts)}
	checkValid(t, outs, true, "MaxOuts outputs, all of one value")
	outs.Outs = append(outs.Outs, 0)
	checkValid(t, outs, false, "one output more")
}

// P3: Lens whose sum goes round the integers do not pass for a small sum.
func TestValidGraphHugeLens(t *testing.T) {
	g := impl.Graph{Vals: []impl.Val{constant(math.MaxInt, 1), constant(math.MaxInt, 1), constant(3, 1)}}
	checkValid(t, g, false, "Lens that go round")
	checkValid(t, impl.Graph{Vals: []impl.Val{constant(1000, 1), constant(-999, 1)}}, false, "a negative Len")
}

// P3: outputs are indexes of values.
func TestValidGraphOutputs(t *testing.T) {
	for _, o := range append(farInts(), 7, 8) {
		g := oneOf(impl.OpAdd)
		g.Outs = []int{0, o}
		checkValid(t, g, false, "an output that is no value")
	}
	g := oneOf(impl.OpAdd)
	g.Outs = []int{6, 0, 6, 6}
	checkValid(t, g, true, "an output that stands twice")
	checkValid(t, impl.Graph{Outs: []int{0}}, false, "an output without a value")
}

// P3: graphs in which one number was changed, good or bad.
func TestValidGraphChanged(t *testing.T) {
	s := &source{10}
	numbers := append(farInts(), 0, 0, 1, 1, 2, 3, 4, 5, 13, 14, 1000, 1001)
	good := 0
	for range 20000 {
		g := anyGraph(s)
		checkValid(t, g, true, "any graph")
		x := numbers[s.below(len(numbers))]
		switch {
		case len(g.Vals) > 0 && s.below(4) > 0:
			v := &g.Vals[s.below(len(g.Vals))]
			*append(fieldsOf(v), &v.Op, &v.Len)[s.below(5)] = x
		case len(g.Outs) > 0 && s.below(2) > 0:
			g.Outs[s.below(len(g.Outs))] = x
		case len(g.Ins) > 0:
			g.Ins[s.below(len(g.Ins))] = x
		}
		want := wantValid(g)
		checkValid(t, g, want, "a changed graph")
		if want {
			good++
		}
	}
	if good < 1000 || good > 19000 {
		t.Errorf("%d of the changed graphs are valid: these are not much of a test", good)
	}
}
