package tests

import (
	"math"
	"slices"
	"strings"
	"testing"

	"loop.example/s08086/impl"
)

// passFloats are constants among which there is much to find.
func passFloats() []float64 {
	return []float64{1, 1, 1, -1, 0, 0, minusZero(), minusZero(), 2, math.Inf(1), math.Inf(-1), math.NaN(), math.Float64frombits(0xfff0000000000001), 5e-324}
}

// knotted answers a valid graph in which every pass finds something: constants that are units, rows of OpNeg, values twice.
func knotted(s *source, size int) impl.Graph {
	g := impl.Graph{Ins: []int{1, 1, 3}[:1+s.below(3)]}
	floats := passFloats()
	for len(g.Vals) < size {
		in := s.below(len(g.Ins))
		v := val(impl.OpInput, g.Ins[in], in, 0, 0)
		if s.below(4) > 0 {
			v = anyVal(s, g)
		}
		switch s.below(5) {
		case 0:
			v = constant([]int{1, 1, 3}[s.below(3)], floats[s.below(len(floats))])
		case 1:
			if len(g.Vals) > 0 {
				v = again(s, g)
			}
		case 2:
			if len(g.Vals) > 0 {
				a := len(g.Vals) - 1 - s.below(min(3, len(g.Vals)))
				v = impl.Val{Op: impl.OpNeg, Len: g.Vals[a].Len, A: a, K: floats[s.below(len(floats))]}
			}
		case 3:
			if len(g.Vals) > 0 {
				v = withUnit(s, g)
			}
		}
		g.Vals = append(g.Vals, v)
	}
	for range s.below(6) {
		if size > 0 {
			g.Outs = append(g.Outs, size-1-s.below(min(size, 12)))
		}
	}
	return g
}

// again answers a value that stands in g already, perhaps with other operands of the same lengths or with another K.
func again(s *source, g impl.Graph) impl.Val {
	v := g.Vals[s.below(len(g.Vals))]
	for _, f := range fieldsOf(&v)[:ruleOf(v.Op).operands] {
		if s.below(3) == 0 {
			*f = withLength(s, g, g.Vals[*f].Len)
		}
	}
	if v.Op != impl.OpConst {
		v.K = passFloats()[s.below(len(passFloats()))]
	}
	return v
}

// withUnit answers one of the four operations, mostly with a constant on a side that may be its unit.
func withUnit(s *source, g impl.Graph) impl.Val {
	a := s.below(len(g.Vals))
	for i, v := range g.Vals {
		if v.Op != impl.OpConst && s.below(4) == 0 {
			a = i
		}
	}
	n := g.Vals[a].Len
	b := a
	for i, v := range g.Vals {
		if v.Op == impl.OpConst && v.Len == n && (b == a || s.below(3) == 0) {
			b = i
		}
	}
	op := impl.OpAdd + s.below(2)
	if g.Vals[b].K != 0 {
		op += 2
	}
	if s.below(3) == 0 {
		a, b = b, a
	}
	return impl.Val{Op: op, Len: n, A: a, B: b, K: 1}
}

// P8, P9 and P10: every pass over any graph, and every pass after every other.
func TestPassesOfAnyGraph(t *testing.T) {
	s := &source{100}
	changed := map[[2]int]int{}
	for round := range 4000 {
		g := knotted(s, s.below(40))
		if round%4 == 0 {
			g = anyGraph(s)
		}
		for _, p := range everyPass() {
			first, code := passed(t, s, g, p)
			if code != impl.CodeOK {
				t.Fatalf("pass %d: code %d of %s", p, code, told(g))
			}
			if !sameMeaning(first, g) {
				changed[[2]int{p, p}]++
			}
			if round%5 == 0 {
				checkNextPass(t, s, g, first, p, changed)
			}
		}
	}
	for _, p := range everyPass() {
		for _, q := range everyPass() {
			if changed[[2]int{p, q}] < 40 && p != q || changed[[2]int{p, p}] < 300 {
				t.Errorf("pass %d then %d: %d graphs changed: not much of a test", p, q, changed[[2]int{p, q}])
			}
		}
	}
}

// checkNextPass runs each pass after the pass p, alone and in one list with it.
func checkNextPass(t *testing.T, s *source, g, first impl.Graph, p int, changed map[[2]int]int) {
	t.Helper()
	for _, q := range everyPass() {
		second, _ := passed(t, s, first, q)
		both, code := optimised(t, s, g, []int{p, q})
		if code != impl.CodeOK || !sameMeaning(both, second) {
			t.Fatalf("passes %d, %d: code %d, %s, one by one %s", p, q, code, told(both), told(second))
		}
		if q != p && !sameMeaning(second, first) {
			changed[[2]int{p, q}]++
		}
	}
}

func anyPasses(s *source, n int) []int {
	out := []int{}
	for range n {
		out = append(out, s.below(5))
	}
	return out
}

// P8 and P10: lists of passes of every length.
func TestPassesInAnyList(t *testing.T) {
	s := &source{101}
	for n := range impl.MaxPasses + 1 {
		for range 20 {
			g := knotted(s, 1+s.below(60))
			got, code := optimised(t, s, g, anyPasses(s, n))
			if code != impl.CodeOK {
				t.Fatalf("%d passes: code %d", n, code)
			}
			optimised(t, s, got, anyPasses(s, s.below(6)))
		}
	}
}

// P8: graphs in which one number was changed, good or bad, and lists in which one was.
func TestPassesOfChangedGraphs(t *testing.T) {
	s := &source{102}
	codes := map[int]int{}
	for range 10000 {
		g := knotted(s, 4+s.below(8))
		g.Ins, g.Outs = slices.Clone(g.Ins), append(g.Outs, 0)
		changeOneNumber(s, g)
		passes := anyPasses(s, 1+s.below(4))
		if s.below(3) == 0 {
			passes[s.below(len(passes))] = wrongPasses()[s.below(len(wrongPasses()))]
		}
		_, code := passed(t, s, g, passes[0])
		codes[code]++
		_, code = optimised(t, s, g, passes)
		codes[code]++
	}
	if codes[impl.CodeOK] < 500 || codes[impl.CodeBad] < 5000 || codes[impl.CodePass] < 300 {
		t.Errorf("%v: not much of a test", codes)
	}
}

// P8, P9 and P10: graphs as great as they may be.
func TestPassesOfGreatGraphs(t *testing.T) {
	s := &source{103}
	for range 6 {
		g := knotted(s, impl.MaxVals)
		g.Outs = nil
		for len(g.Outs) < impl.MaxOuts {
			g.Outs = append(g.Outs, s.below(impl.MaxVals))
		}
		for _, p := range everyPass() {
			if _, code := passed(t, s, g, p); code != impl.CodeOK {
				t.Fatalf("pass %d: code %d", p, code)
			}
		}
		optimised(t, s, g, anyPasses(s, impl.MaxPasses))
	}
	long := impl.Graph{Ins: []int{impl.MaxLen}, Vals: []impl.Val{val(impl.OpInput, impl.MaxLen, 0, 0, 0), constant(impl.MaxLen, 1)}, Outs: []int{49, 48, 47}}
	for i := 2; i < 50; i++ {
		long.Vals = append(long.Vals, val([]int{impl.OpMul, impl.OpNeg, impl.OpSub}[i%3], impl.MaxLen, i-2, (i-1)*(1-i%3%2), 0))
	}
	optimised(t, s, long, anyPasses(s, impl.MaxPasses))
	for _, p := range everyPass() {
		if _, code := passed(t, s, long, p); code != impl.CodeOK {
			t.Fatalf("pass %d: code %d", p, code)
		}
	}
}

// gradientSources are sources with derivatives of each kind in them.
func gradientSources() []string {
	return []string{
		"in x : 2 ; out grad(sum(x * x), x) ;",
		"in x : 3 ; out grad(sum(x * x * x), x) ; out sum(x * x * x) ;",
		"in x : 3 ; in y : 3 ; out grad(dot(x, y) / sum(y), y) ; out jvp(x / y, y, x) ;",
		"in x : 1 ; out grad(grad(x * x * x, x), x) ; out jvp(jvp(exp(x), x, 1), x, 1) ;",
		"in x : 3 ; out grad(sum(max(x, 0) + sel(x, x * 2, - x)), x) ; out max(- - x, 0) ;",
		"in x : 4 ; def f(v) = sum(exp(- v * v)) ; out grad(f(x) + f(1 * x - 0), x) ;",
		"in x : 2 ; let w = 0.5 ; repeat 5 w = w - 0.1 * grad(sum((x * w - 1) * (x * w - 1)), w) ; out w ;",
		"in x : 3 ; out grad(pick(x, 1) * pick(x, 2), x) + put(2 * 3, 0, 3) ; out jvp(put(pick(x, 0), 1, 2), x, x) ;",
		"in x : 2 ; out jvp(grad(sum(exp(x) / (1 + exp(x))), x), x, 1) ; out x * 1 / 1 - 0 ;",
		"in x : 2 ; let c = fill(2, 5) ; out sum(c) * x ; out grad(sum(fill(sum(x), 7)), x) ; out grad(sum(c), x) ;",
	}
}

// P8, P9 and P10: the graphs of sources with gradients in them.
func TestPassesOfSources(t *testing.T) {
	s := &source{104}
	for _, text := range gradientSources() {
		g, code, at := parsed(t, text)
		if code != impl.CodeOK {
			t.Fatalf("%s: code %d at %d", text, code, at)
		}
		for _, p := range everyPass() {
			first, _ := passed(t, s, g, p)
			for _, q := range everyPass() {
				passed(t, s, first, q)
			}
		}
		for range 20 {
			optimised(t, s, g, anyPasses(s, s.below(12)))
		}
		small, _ := optimised(t, s, g, slices.Repeat([]int{impl.PassFold, impl.PassCommon, impl.PassNeg, impl.PassUnit, impl.PassDead}, 10))
		if len(small.Vals) >= len(g.Vals) {
			t.Errorf("%s: nothing was found in %s", text, told(g))
		}
	}
	checked := 0
	for range 1500 {
		text := written(s, anyLines(s))
		g, code, _ := impl.ParseSource([]byte(text))
		if code != impl.CodeOK || !strings.Contains(text, "grad") && !strings.Contains(text, "jvp") {
			continue
		}
		checked++
		passed(t, s, g, s.below(5))
		optimised(t, s, g, anyPasses(s, 1+s.below(8)))
	}
	if checked < 300 {
		t.Errorf("%d sources: not much of a test", checked)
	}
}

// No call of a pass writes into its graph or its list, and no answer shares memory with one.
func TestPassesMemory(t *testing.T) {
	s := &source{105}
	codes := map[int]int{}
	for round := range 3000 {
		g := knotted(s, s.below(20))
		if round%10 == 0 {
			g.Outs = append(g.Outs, len(g.Vals))
		}
		p := s.below(6)
		checkCallMemory(t, g, func(g impl.Graph) (impl.Graph, int) {
			out, code := impl.RunPass(g, p)
			codes[code]++
			return out, code
		})
		list := anyPasses(s, s.below(5))
		if len(list) > 0 && round%4 == 0 {
			list[s.below(len(list))] = 5
		}
		given := append(slices.Clone(list), 77, 77, 77)
		kept := slices.Clone(given)
		checkCallMemory(t, g, func(g impl.Graph) (impl.Graph, int) {
			out, code := impl.Optimise(g, given[:len(list)])
			codes[code]++
			return out, code
		})
		if !slices.Equal(given, kept) {
			t.Fatalf("passes %v: the list is written to: %v", kept, given)
		}
	}
	for _, c := range []int{impl.CodeOK, impl.CodeBad, impl.CodePass} {
		if codes[c] < 300 {
			t.Errorf("code %d was answered %d times: not much of a test", c, codes[c])
		}
	}
}

// A list of no passes is no reason to hand out the argument itself.
func TestNoPassIsACopy(t *testing.T) {
	g := readGraph(t, "ins 1 2; input 0; neg 0; input 1 : 2; outs 1 2 1")
	for _, list := range [][]int{nil, {}, {impl.PassNeg}, {impl.PassDead}} {
		checkCallMemory(t, g, func(g impl.Graph) (impl.Graph, int) {
			out, code := impl.Optimise(g, list)
			if code != impl.CodeOK || !sameMeaning(out, g) {
				t.Errorf("passes %v: code %d, %s", list, code, told(out))
			}
			return out, code
		})
	}
}
