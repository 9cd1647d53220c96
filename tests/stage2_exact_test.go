package tests

import (
	"math/big"
	"slices"
	"testing"

	"loop.example/s08086/impl"
)

// dual is a number and how fast it changes, both exact.
type dual struct {
	at, rate *big.Rat
}

func still(r *big.Rat) dual {
	return dual{r, new(big.Rat)}
}

func sum(a, b *big.Rat) *big.Rat     { return new(big.Rat).Add(a, b) }
func minus(a, b *big.Rat) *big.Rat   { return new(big.Rat).Sub(a, b) }
func product(a, b *big.Rat) *big.Rat { return new(big.Rat).Mul(a, b) }

// dualElement is one element of a value with its rate, by the rules of calculus; false where no rational number is the answer.
func dualElement(v impl.Val, a, b, c []dual, i int) (dual, bool) {
	switch v.Op {
	case impl.OpAdd:
		return dual{sum(a[i].at, b[i].at), sum(a[i].rate, b[i].rate)}, true
	case impl.OpSub:
		return dual{minus(a[i].at, b[i].at), minus(a[i].rate, b[i].rate)}, true
	case impl.OpMul:
		return dual{product(a[i].at, b[i].at), sum(product(a[i].rate, b[i].at), product(a[i].at, b[i].rate))}, true
	case impl.OpDiv:
		if b[i].at.Sign() == 0 {
			return dual{}, false
		}
		below := new(big.Rat).Inv(b[i].at)
		above := minus(product(a[i].rate, b[i].at), product(a[i].at, b[i].rate))
		return dual{product(a[i].at, below), product(above, product(below, below))}, true
	case impl.OpNeg:
		return dual{minus(new(big.Rat), a[i].at), minus(new(big.Rat), a[i].rate)}, true
	case impl.OpMax:
		if a[i].at.Cmp(b[i].at) > 0 {
			return a[i], true
		}
		return b[i], true
	case impl.OpSel:
		if a[i].at.Sign() > 0 {
			return b[i], true
		}
		return c[i], true
	case impl.OpSum:
		all := still(new(big.Rat))
		for _, x := range a {
			all = dual{sum(all.at, x.at), sum(all.rate, x.rate)}
		}
		return all, true
	case impl.OpFill:
		return a[0], true
	case impl.OpPick:
		return a[v.C], true
	case impl.OpPut:
		if i == v.C {
			return a[0], true
		}
		return still(new(big.Rat)), true
	case impl.OpExp: // the only rational power of e is that of 0
		return dual{big.NewRat(1, 1), a[i].rate}, a[i].at.Sign() == 0
	}
	return dual{}, false
}

// duals answers all values of a graph with their rates when x changes by dir, and whether all are rational.
func duals(g impl.Graph, inputs [][]float64, x int, dir []float64) ([][]dual, bool) {
	lists := [][]dual{}
	at := func(i int) []dual { return lists[max(0, min(i, len(lists)-1))] }
	for i, v := range g.Vals {
		list := []dual{}
		for j := range v.Len {
			switch v.Op {
			case impl.OpInput:
				list = append(list, still(new(big.Rat).SetFloat64(inputs[v.A][j])))
			case impl.OpConst:
				list = append(list, still(new(big.Rat).SetFloat64(v.K)))
			default:
				e, ok := dualElement(v, at(v.A), at(v.B), at(v.C), j)
				if !ok || e.at.Num().BitLen() > 500 || e.at.Denom().BitLen() > 500 {
					return nil, false
				}
				list = append(list, e)
			}
			if i <= x {
				list[j].rate = new(big.Rat)
			}
			if i == x {
				list[j].rate.SetFloat64(dir[j])
			}
		}
		lists = append(lists, list)
	}
	return lists, true
}

// everyValue answers the elements of all values of a graph.
func everyValue(g impl.Graph, inputs [][]float64) [][]float64 {
	all := g
	all.Outs = []int{}
	for i := range g.Vals {
		all.Outs = append(all.Outs, i)
	}
	return wantEval(all, inputs)
}

// nothingRounded answers whether each float of the graph is the number that stands there without rounding.
func nothingRounded(g impl.Graph, inputs [][]float64) bool {
	exact, ok := duals(g, inputs, 0, make([]float64, g.Vals[0].Len))
	if !ok {
		return false
	}
	for i, list := range everyValue(g, inputs) {
		for j, f := range list {
			r := new(big.Rat).SetFloat64(f)
			if r == nil || r.Cmp(exact[i][j].at) != 0 {
				return false
			}
		}
	}
	return true
}

func isRate(f float64, want *big.Rat) bool {
	r := new(big.Rat).SetFloat64(f)
	return r != nil && r.Cmp(want) == 0
}

// plainGraph answers a graph with inputs 0 (of n elements), 1 (the direction, as many) and 2 (of length 1), then values
// of these Ops, and an OpSum at its end. Its constants are small whole numbers, or powers of two.
func plainGraph(s *source, n int, ops []int) impl.Graph {
	g := inputsThen([]int{n, n, 1})
	size := 5 + s.below(9)
	for len(g.Vals) < size {
		v := anyVal(s, g)
		switch {
		case v.Op == impl.OpConst:
			v.K = []float64{-3, -2, -1, 0, 1, 2, 4, 0.5}[s.below(8)]
		case !slices.Contains(ops, v.Op):
			continue
		}
		g.Vals = append(g.Vals, v)
	}
	g.Vals = append(g.Vals, val(impl.OpSum, 1, size-1, 0, 0))
	g.Outs = []int{size}
	return g
}

func wholeInputs(s *source, g impl.Graph) [][]float64 {
	out := [][]float64{}
	for _, n := range g.Ins {
		list := make([]float64, n)
		for i := range list {
			list[i] = float64(s.below(9) - 4)
		}
		out = append(out, list)
	}
	return out
}

// valueOf answers the elements of one value by Eval.
func valueOf(t *testing.T, g impl.Graph, at int, inputs [][]float64) []float64 {
	t.Helper()
	g.Outs = []int{at}
	outs, code := impl.Eval(g, inputs)
	if code != impl.CodeOK {
		t.Fatalf("code %d: %+v", code, g)
	}
	return outs[0]
}

func linearOps() []int {
	return []int{impl.OpInput, impl.OpAdd, impl.OpSub, impl.OpMul, impl.OpNeg, impl.OpSum, impl.OpFill, impl.OpPick, impl.OpPut}
}

// P4: where nothing is rounded, the gradient is the gradient: element for element what calculus says.
func TestGradIsTheGradient(t *testing.T) {
	s := &source{30}
	for _, ops := range [][]int{linearOps(), append(linearOps(), impl.OpDiv, impl.OpMax, impl.OpSel, impl.OpExp)} {
		seen, moving := 0, 0
		for range 1500 {
			g := plainGraph(s, 1+s.below(4), ops)
			inputs := wholeInputs(s, g)
			x := s.below(len(g.Vals))
			got, at, code := impl.Grad(g, g.Outs[0], x)
			if code != impl.CodeOK || !nothingRounded(got, inputs) {
				continue
			}
			seen++
			gradient := valueOf(t, got, at, inputs)
			for j, f := range gradient {
				dir := make([]float64, len(gradient))
				dir[j] = 1
				want, _ := duals(g, inputs, x, dir)
				rate := want[g.Outs[0]][0].rate
				if !isRate(f, rate) {
					t.Fatalf("%+v by %d with %v: element %d of the gradient is %v, want %v", g, x, inputs, j, f, rate)
				}
				if f != 0 {
					moving++
				}
			}
		}
		if seen < 400 || moving < 400 {
			t.Errorf("%d graphs, %d elements: not much of a test", seen, moving)
		}
	}
}

// P5: where nothing is rounded, the derivative is the one in the direction, for s of any length.
func TestJvpIsTheDerivative(t *testing.T) {
	s := &source{31}
	for _, ops := range [][]int{linearOps(), append(linearOps(), impl.OpDiv, impl.OpMax, impl.OpSel, impl.OpExp)} {
		seen, moving := 0, 0
		for range 1500 {
			g := plainGraph(s, 1+s.below(4), ops)
			inputs := wholeInputs(s, g)
			of := s.below(len(g.Vals))
			x := s.below(of + 1)
			d := withLength(s, g, g.Vals[x].Len)
			got, at, code := impl.Jvp(g, of, x, d)
			if code != impl.CodeOK || !nothingRounded(got, inputs) {
				continue
			}
			seen++
			want, _ := duals(g, inputs, x, valueOf(t, g, d, inputs))
			for j, f := range valueOf(t, got, at, inputs) {
				if !isRate(f, want[of][j].rate) {
					t.Fatalf("%+v of %d by %d, %d with %v: element %d is %v, want %v", g, of, x, d, inputs, j, f, want[of][j].rate)
				}
				if f != 0 {
					moving++
				}
			}
		}
		if seen < 400 || moving < 400 {
			t.Errorf("%d graphs, %d elements: not much of a test", seen, moving)
		}
	}
}

// P5: the sum of the products of the gradient and the direction is the derivative in this direction.
func TestGradientTimesDirection(t *testing.T) {
	s := &source{32}
	for _, ops := range [][]int{linearOps(), append(linearOps(), impl.OpDiv, impl.OpMax, impl.OpSel, impl.OpExp)} {
		seen, moving := 0, 0
		for range 1500 {
			g := plainGraph(s, 1+s.below(4), ops)
			inputs := wholeInputs(s, g)
			x, of := s.below(len(g.Vals)), g.Outs[0]
			d := withLength(s, g, g.Vals[x].Len)
			back, backAt, backCode := impl.Grad(g, of, x)
			ahead, aheadAt, aheadCode := impl.Jvp(g, of, x, d)
			if backCode != impl.CodeOK || aheadCode != impl.CodeOK || !nothingRounded(back, inputs) || !nothingRounded(ahead, inputs) {
				continue
			}
			seen++
			all, direction := new(big.Rat), valueOf(t, g, d, inputs)
			for j, f := range valueOf(t, back, backAt, inputs) {
				all = sum(all, product(new(big.Rat).SetFloat64(f), new(big.Rat).SetFloat64(direction[j])))
			}
			if f := valueOf(t, ahead, aheadAt, inputs)[0]; !isRate(f, all) {
				t.Fatalf("%+v by %d in the direction %d with %v: %v forwards, %v backwards", g, x, d, inputs, f, all)
			}
			if all.Sign() != 0 {
				moving++
			}
		}
		if seen < 400 || moving < 200 {
			t.Errorf("%d graphs, %d of them moving: not much of a test", seen, moving)
		}
	}
}

// P4 and P5: gradients of gradients, and derivatives forwards of them, of x * x * x * x.
func TestDerivativesOfAPower(t *testing.T) {
	g := inputsThen([]int{1, 1}, val(impl.OpMul, 1, 0, 0, 0), val(impl.OpMul, 1, 2, 0, 0), val(impl.OpMul, 1, 0, 3, 0))
	inputs := [][]float64{{3}, {2}}
	back, ahead, mixed := g, g, g
	backAt, aheadAt, mixedAt := 4, 4, 4
	code := impl.CodeOK
	direction := 1.0
	for depth, want := range []float64{81, 108, 108, 72, 24, 0} {
		got := []float64{valueOf(t, back, backAt, inputs)[0], valueOf(t, ahead, aheadAt, inputs)[0], valueOf(t, mixed, mixedAt, inputs)[0]}
		mixedWant := want
		for range depth / 2 {
			mixedWant *= 2
		}
		if !sameList(got, []float64{want, want * direction, mixedWant}) {
			t.Errorf("derivative %d: %v, want %v", depth, got, []float64{want, want * direction, mixedWant})
		}
		direction *= 2
		if back, backAt, code = impl.Grad(back, backAt, 0); code != impl.CodeOK {
			t.Fatalf("%d", code)
		}
		if ahead, aheadAt, code = impl.Jvp(ahead, aheadAt, 0, 1); code != impl.CodeOK {
			t.Fatalf("%d", code)
		}
		if depth%2 == 0 {
			mixed, mixedAt, code = impl.Grad(mixed, mixedAt, 0)
		} else {
			mixed, mixedAt, code = impl.Jvp(mixed, mixedAt, 0, 1)
		}
		if code != impl.CodeOK {
			t.Fatalf("%d", code)
		}
	}
}
