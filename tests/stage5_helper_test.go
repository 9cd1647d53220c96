package tests

import (
	"math"
	"slices"
	"strconv"
	"strings"
	"testing"

	"loop.example/s08086/impl"
)

func copyCode(c impl.Code) impl.Code {
	return impl.Code{Ins: slices.Clone(c.Ins), Steps: slices.Clone(c.Steps), Outs: slices.Clone(c.Outs), Peak: c.Peak}
}

func sameCode(c, d impl.Code) bool {
	sameStep := func(s, r impl.Step) bool {
		sameBits := math.Float64bits(s.K) == math.Float64bits(r.K)
		s.K, r.K = 0, 0
		return sameBits && s == r
	}
	return slices.Equal(c.Ins, d.Ins) && slices.EqualFunc(c.Steps, d.Steps, sameStep) && slices.Equal(c.Outs, d.Outs) && c.Peak == d.Peak
}

func sameResult(r, q impl.Result) bool {
	return r.Code == q.Code && r.At == q.At && r.Steps == q.Steps && r.Peak == q.Peak && sameLists(r.Outs, q.Outs)
}

// toldCode answers a code in few words: for each step what it takes, then, behind >, the cells that it writes.
// A span is its offset, a plus and its length.
func toldCode(c impl.Code) string {
	span := func(p impl.Span) string { return " " + strconv.Itoa(p.Off) + "+" + strconv.Itoa(p.Len) }
	ins, outs := "ins", "outs"
	for _, n := range c.Ins {
		ins += " " + strconv.Itoa(n)
	}
	for _, o := range c.Outs {
		outs += span(o)
	}
	parts := []string{ins}
	for _, s := range c.Steps {
		if s.Op < 0 || s.Op > 13 {
			parts = append(parts, "op "+strconv.Itoa(s.Op))
			continue
		}
		word := ruleOf(s.Op).name
		switch s.Op {
		case impl.OpInput:
			word += " " + strconv.Itoa(s.A)
		case impl.OpConst:
			word += " " + strconv.FormatFloat(s.K, 'g', -1, 64)
		}
		for _, p := range spansTaken(s) {
			word += span(p)
		}
		if ruleOf(s.Op).place {
			word += " @" + strconv.Itoa(s.C)
		}
		parts = append(parts, word+" >"+span(impl.Span{Off: s.Dst, Len: s.Len}))
	}
	return strings.Join(append(parts, outs, "peak "+strconv.Itoa(c.Peak)), "; ")
}

func readInt(t *testing.T, word string) int {
	t.Helper()
	n, err := strconv.Atoi(word)
	if err != nil {
		t.Fatalf("%q is no number", word)
	}
	return n
}

func readSpan(t *testing.T, word string) impl.Span {
	t.Helper()
	off, length, found := strings.Cut(word, "+")
	if !found {
		t.Fatalf("%q is no span", word)
	}
	return impl.Span{Off: readInt(t, off), Len: readInt(t, length)}
}

// readCode reads what toldCode tells.
func readCode(t *testing.T, text string) impl.Code {
	t.Helper()
	parts := strings.Split(text, ";")
	last := len(parts) - 1
	c := impl.Code{Peak: readInt(t, strings.Fields(parts[last])[1])}
	for _, word := range strings.Fields(parts[0])[1:] {
		c.Ins = append(c.Ins, readInt(t, word))
	}
	for _, word := range strings.Fields(parts[last-1])[1:] {
		c.Outs = append(c.Outs, readSpan(t, word))
	}
	for _, part := range parts[1 : last-1] {
		c.Steps = append(c.Steps, readStep(t, strings.Fields(part)))
	}
	return c
}

func readStep(t *testing.T, words []string) impl.Step {
	t.Helper()
	s := impl.Step{}
	for ruleOf(s.Op).name != words[0] {
		s.Op++
	}
	to := readSpan(t, words[len(words)-1])
	s.Dst, s.Len = to.Off, to.Len
	words = words[1 : len(words)-2]
	switch s.Op {
	case impl.OpInput:
		s.A = readInt(t, words[0])
		return s
	case impl.OpConst:
		s.K = readFloat(t, words[0])
		return s
	}
	if ruleOf(s.Op).place {
		s.C = readInt(t, words[1][1:])
		words = words[:1]
	}
	fields := []*int{&s.A, &s.B, &s.C}
	for k, word := range words {
		p := readSpan(t, word)
		*fields[k] = p.Off
		if k == 0 {
			s.N = p.Len
		} else if p.Len != s.Len {
			t.Fatalf("%q has another length than what is written", word)
		}
	}
	return s
}

// planned calls Plan and looks at what holds for every call.
func planned(t *testing.T, g impl.Graph, budget int) (impl.Code, int) {
	t.Helper()
	var got impl.Code
	var code int
	kept := copyGraph(g)
	mustPanicNever(t, "Plan", func() { got, code = impl.Plan(g, budget) })
	if !sameGraph(g, kept) {
		t.Fatalf("budget %d: the graph is written to", budget)
	}
	want, wantCode := wantPlan(g, budget)
	if code != wantCode || !sameCode(got, want) {
		t.Fatalf("budget %d: code %d, want %d\n got %s\nwant %s\nfrom %+v", budget, code, wantCode, toldCode(got), toldCode(want), g)
	}
	if code != impl.CodeOK {
		return got, code
	}
	if !verified(t, got) || len(got.Steps) != len(g.Vals) || got.Peak > elementsIn(g) {
		t.Fatalf("%s\nof %s", toldCode(got), told(g))
	}
	return got, code
}

// checkPlan looks at P11 and P12 for a valid graph, and answers its plan.
func checkPlan(t *testing.T, s *source, g impl.Graph) impl.Code {
	t.Helper()
	c, code := planned(t, g, impl.MaxCells)
	if code != impl.CodeOK {
		t.Fatalf("code %d of %s", code, told(g))
	}
	for _, budget := range []int{c.Peak, c.Peak + 1, math.MaxInt} {
		if d, code := planned(t, g, budget); code != impl.CodeOK || !sameCode(c, d) {
			t.Fatalf("budget %d of %d: code %d, %s", budget, c.Peak, code, toldCode(d))
		}
	}
	for _, budget := range []int{c.Peak - 1, -1, math.MinInt} {
		if d, code := planned(t, g, budget); code != impl.CodeBudget || !sameCode(d, impl.Code{}) {
			t.Fatalf("budget %d of %d: code %d, %s", budget, c.Peak, code, toldCode(d))
		}
	}
	for _, inputs := range inputsToTry(s, g) {
		want, _ := impl.Eval(g, inputs)
		outs, steps, code := ran(t, c, inputs)
		if code != impl.CodeOK || steps != len(g.Vals) || !sameLists(outs, want) {
			t.Fatalf("inputs %v: code %d, %d steps, %v, by Eval %v\n%s\nof %s", inputs, code, steps, outs, want, toldCode(c), told(g))
		}
	}
	return c
}

// verified calls Verify and looks at what holds for every call.
func verified(t *testing.T, c impl.Code) bool {
	t.Helper()
	var got bool
	kept := copyCode(c)
	mustPanicNever(t, "Verify", func() { got = impl.Verify(c) })
	if !sameCode(c, kept) {
		t.Fatalf("the code is written to")
	}
	if want := wantVerify(c); got != want {
		t.Fatalf("Verify answers %v, want %v: %.2000s\n%.2000v", got, want, toldCode(c), c)
	}
	return got
}

// ran calls RunCode and looks at what holds for every call.
func ran(t *testing.T, c impl.Code, inputs [][]float64) ([][]float64, int, int) {
	t.Helper()
	var got [][]float64
	var steps, code int
	kept, keptInputs := copyCode(c), copyLists(inputs)
	mustPanicNever(t, "RunCode", func() { got, steps, code = impl.RunCode(c, inputs) })
	if !sameCode(c, kept) || !slices.EqualFunc(inputs, keptInputs, rawEqual) {
		t.Fatalf("an argument is written to")
	}
	want, wantSteps, wantCode := wantRun(c, inputs)
	if code != wantCode || steps != wantSteps || !sameLists(got, want) {
		t.Fatalf("%s\nwith %v: code %d, %d steps, %v, want code %d, %d steps, %v", toldCode(c), inputs, code, steps, got, wantCode, wantSteps, want)
	}
	return got, steps, code
}

// compiled calls Compile and looks at what holds for every call.
func compiled(t *testing.T, text string, passes []int, budget int) (impl.Code, int, int) {
	t.Helper()
	var got impl.Code
	var code, at int
	given, keptPasses := append([]byte(text), " out out out"...), slices.Clone(passes)
	kept := slices.Clone(given)
	mustPanicNever(t, text, func() { got, code, at = impl.Compile(given[:len(text)], passes, budget) })
	if !slices.Equal(given, kept) || !slices.Equal(passes, keptPasses) {
		t.Fatalf("%.300q: an argument is written to", text)
	}
	want, wantCode, wantAt := wantCompile(text, passes, budget)
	if code != wantCode || at != wantAt || !sameCodeByNaN(got, want) {
		t.Fatalf("%.300q passes %v budget %d: code %d at %d, want %d at %d\n got %s\nwant %s", text, passes, budget, code, at, wantCode, wantAt, toldCode(got), toldCode(want))
	}
	return got, code, at
}

// sameCodeByNaN takes all NaNs as one: which one PassFold finds is not said.
func sameCodeByNaN(c, d impl.Code) bool {
	plainer := func(c impl.Code) impl.Code {
		c = copyCode(c)
		for i := range c.Steps {
			if c.Steps[i].K != c.Steps[i].K {
				c.Steps[i].K = math.NaN()
			}
		}
		return c
	}
	return sameCode(plainer(c), plainer(d))
}

// solved calls Solve and looks at what holds for every call, P16 with it.
func solved(t *testing.T, text string, passes []int, budget int, inputs [][]float64) impl.Result {
	t.Helper()
	var got impl.Result
	given, keptPasses, keptInputs := append([]byte(text), " out out out"...), slices.Clone(passes), copyLists(inputs)
	kept := slices.Clone(given)
	mustPanicNever(t, text, func() { got = impl.Solve(given[:len(text)], passes, budget, inputs) })
	if !slices.Equal(given, kept) || !slices.Equal(passes, keptPasses) || !slices.EqualFunc(inputs, keptInputs, rawEqual) {
		t.Fatalf("%.300q: an argument is written to", text)
	}
	if want := wantSolve(text, passes, budget, inputs); !sameResult(got, want) {
		t.Fatalf("%.300q passes %v budget %d inputs %v:\n got %+v\nwant %+v", text, passes, budget, inputs, got, want)
	}
	if got.Code == impl.CodeOK {
		plain := impl.Solve([]byte(text), nil, impl.MaxCells, inputs)
		if plain.Code != impl.CodeOK || !sameLists(plain.Outs, got.Outs) {
			t.Fatalf("%.300q passes %v budget %d inputs %v:\n got %+v\nwithout %+v", text, passes, budget, inputs, got, plain)
		}
	}
	return got
}
