package tests

import (
	"math"
	"slices"
	"strings"
	"testing"

	"loop.example/s08086/impl"
)

// checkSolve looks at Solve, and that Compile says the same but for inputs that do not fit.
func checkSolve(t *testing.T, text string, passes []int, budget int, inputs [][]float64, want impl.Result) {
	t.Helper()
	if got := solved(t, text, passes, budget, inputs); !sameResult(got, want) {
		t.Errorf("%.200q passes %v budget %d inputs %v:\n got %+v\nwant %+v", text, passes, budget, inputs, got, want)
	}
	wantCode := want.Code
	if want.Code == impl.CodeShape && want.Peak > 0 {
		wantCode = impl.CodeOK
	}
	c, code, at := compiled(t, text, passes, budget)
	if code != wantCode || at != want.At || c.Peak != want.Peak || code != impl.CodeOK && !sameCode(c, impl.Code{}) {
		t.Errorf("%.200q passes %v budget %d: code %d at %d, %s", text, passes, budget, code, at, toldCode(c))
	}
}

const squaresText = "in x : 2 ; out sum(x * x) ;"

// P16: ordinary sources, with their steps and their Peak.
func TestSolve(t *testing.T) {
	cube := "in x : 2 ; out grad(sum(x * x * x), x) ; out sum(x) ;"
	for _, passes := range [][]int{nil, {impl.PassCommon, impl.PassDead}, {4, 2, 3, 1, 0}, anyPasses(&source{130}, impl.MaxPasses)} {
		got := solved(t, cube, passes, impl.MaxCells, [][]float64{{2, -3}})
		if got.Code != impl.CodeOK || got.At != 0 || !sameLists(got.Outs, [][]float64{{12, 27}, {-1}}) {
			t.Errorf("passes %v: %+v", passes, got)
		}
	}
	checkSolve(t, squaresText, nil, 4, [][]float64{{3, 4}}, impl.Result{Steps: 3, Peak: 4, Outs: [][]float64{{25}}})
	checkSolve(t, "", nil, 0, nil, impl.Result{})
	checkSolve(t, "# nothing", []int{0, 1, 2, 3, 4}, 7, [][]float64{}, impl.Result{})
	checkSolve(t, "in x : 3 ;", nil, 3, [][]float64{{1, 2, 3}}, impl.Result{Steps: 1, Peak: 3})
	checkSolve(t, "in x : 3 ;", []int{impl.PassDead}, 0, [][]float64{{1, 2, 3}}, impl.Result{})
	checkSolve(t, "out 1 ; out 2 ; out 1 / 0 ;", nil, 5, nil, impl.Result{Steps: 5, Peak: 5, Outs: [][]float64{{1}, {2}, {math.Inf(1)}}})
	checkSolve(t, "out 0 / 0 ; out - 0 ;", []int{impl.PassFold, impl.PassDead}, 2, nil, impl.Result{Steps: 2, Peak: 2, Outs: [][]float64{{math.NaN()}, {minusZero()}}})
	c, code, at := compiled(t, squaresText, nil, 4)
	if want := "ins 2; input 0 > 0+2; mul 0+2 0+2 > 2+2; sum 2+2 > 0+1; outs 0+1; peak 4"; code != impl.CodeOK || at != 0 || toldCode(c) != want {
		t.Errorf("code %d at %d, %s", code, at, toldCode(c))
	}
}

// P16: the passes are looked at first: how many they are, then the first that is none of the five.
func TestSolveOfWrongPasses(t *testing.T) {
	texts := []string{"", squaresText, "out", "out w ;", "@", "in x : 0 ;", strings.Repeat(" ", impl.MaxSource+1), "out 1234567890123456 ;"}
	for _, text := range texts {
		for _, budget := range []int{impl.MaxCells, 0, -1} {
			for _, p := range wrongPasses() {
				for _, at := range []int{0, 1, 25, impl.MaxPasses - 2, impl.MaxPasses - 1} {
					list := make([]int, impl.MaxPasses)
					list[at] = p
					checkSolve(t, text, list, budget, nil, impl.Result{Code: impl.CodePass, At: at})
					checkSolve(t, text, list[:at+1], budget, nil, impl.Result{Code: impl.CodePass, At: at})
					// of several the first; one too many is told ahead of all
					list[impl.MaxPasses-1] = -1
					checkSolve(t, text, list, budget, [][]float64{{3, 4}}, impl.Result{Code: impl.CodePass, At: at})
					checkSolve(t, text, append(list, p), budget, nil, impl.Result{Code: impl.CodePass, At: impl.MaxPasses})
					checkSolve(t, text, append(list, 0), budget, nil, impl.Result{Code: impl.CodePass, At: impl.MaxPasses})
				}
			}
			checkSolve(t, text, make([]int, impl.MaxPasses+1), budget, nil, impl.Result{Code: impl.CodePass, At: impl.MaxPasses})
			checkSolve(t, text, slices.Repeat([]int{7}, 300), budget, nil, impl.Result{Code: impl.CodePass, At: impl.MaxPasses})
		}
	}
	checkSolve(t, squaresText, make([]int, impl.MaxPasses), 4, [][]float64{{3, 4}}, impl.Result{Steps: 3, Peak: 4, Outs: [][]float64{{25}}})
}

// P16: a source that is refused is told with its offset, ahead of the budget and of the inputs.
func TestSolveOfRefusedSources(t *testing.T) {
	faults := map[int][]string{
		impl.CodeSyntax: {"|)", "out|", "out 1|", "in x|;", "out 1 ; |@", "out 1 + |;", "let |sum = 1 ;"},
		impl.CodeName:   {"out |w ;", "in x : 1 ; in |x : 1 ;", "def f(a, |a) = a ;", "out |f(1) ;", "repeat 1 |w = 1 ;", "out grad(1, |x) ;"},
		impl.CodeShape: {"in x : |0 ;", "in x : |1001 ;", "in x : 2 ; in y : 3 ; out x |+ y ;", "in x : 2 ; out |fill(x, 3) ;", "in x : 2 ; out pick(x, |2) ;",
			"out put(1, |3, 3) ;", "in x : 2 ; out |grad(x, x) ;", "in x : 2 ; in y : 3 ; out |jvp(x, x, y) ;"},
		impl.CodeLimit: {"|" + strings.Repeat(" ", impl.MaxSource+1), "out |1234567890123456 ;", "let w = 1 ; repeat |101 w = w ;", "def f(a) = |f(a) ; out f(1) ;",
			strings.Repeat("out 1 ; ", impl.MaxOuts) + "|out 1 ;"},
	}
	for code, marked := range faults {
		for _, m := range marked {
			text, at := strings.Replace(m, "|", "", 1), strings.Index(m, "|")
			for _, passes := range [][]int{nil, {0}, make([]int, impl.MaxPasses)} {
				for _, budget := range []int{impl.MaxCells, 0, -1, math.MinInt} {
					for _, inputs := range [][][]float64{nil, {{1}}, {{1, 2}, {3}}} {
						checkSolve(t, text, passes, budget, inputs, impl.Result{Code: code, At: at})
					}
				}
			}
		}
	}
}

// P16 and P12: budgets, and what passes do to them.
func TestSolveOfBudgets(t *testing.T) {
	inputs := [][]float64{{3, 4}}
	budget := impl.Result{Code: impl.CodeBudget}
	for _, n := range []int{3, 2, 0, -1, math.MinInt} {
		checkSolve(t, squaresText, nil, n, inputs, budget)
		// a budget that is too small is told ahead of inputs that do not fit
		checkSolve(t, squaresText, nil, n, nil, budget)
		checkSolve(t, squaresText, []int{0, 1, 2, 3, 4}, n, [][]float64{{3}}, budget)
	}
	for _, n := range []int{4, 5, impl.MaxCells, impl.MaxCells + 1, math.MaxInt} {
		checkSolve(t, squaresText, nil, n, inputs, impl.Result{Steps: 3, Peak: 4, Outs: [][]float64{{25}}})
	}
	checkSolve(t, "", nil, -1, nil, budget)
	checkSolve(t, "", nil, -1, inputs, budget)
	// too small as it is, but not after the passes
	spare := "in x : 2 ; let w = exp(x) * x ; out x ;"
	checkSolve(t, spare, nil, 6, inputs, impl.Result{Steps: 3, Peak: 6, Outs: inputs})
	for n := 2; n < 6; n++ {
		checkSolve(t, spare, nil, n, inputs, budget)
		checkSolve(t, spare, []int{impl.PassDead}, n, inputs, impl.Result{Steps: 1, Peak: 2, Outs: inputs})
	}
	checkSolve(t, spare, []int{impl.PassDead}, 1, inputs, budget)
	// wide enough as it is, but not after a pass by which a value is used for longer
	twice := "in x : 2 ; let a = sum(x * 2) ; out x ; out fill(a, 5) ; out sum(x * 2) ;"
	before := solved(t, twice, nil, impl.MaxCells, inputs)
	after := solved(t, twice, []int{impl.PassCommon}, impl.MaxCells, inputs)
	if before.Peak >= after.Peak {
		t.Fatalf("peaks %d and %d: the source says nothing", before.Peak, after.Peak)
	}
	checkSolve(t, twice, nil, before.Peak, inputs, before)
	checkSolve(t, twice, []int{impl.PassCommon}, before.Peak, inputs, budget)
	checkSolve(t, twice, []int{impl.PassCommon}, after.Peak, inputs, after)
}

// P16: inputs that do not fit, with a code that is taken: Peak alone is told beside the code.
func TestSolveOfInputsThatDoNotFit(t *testing.T) {
	text := "in x : 2 ; in y : 1 ; out x * y ;"
	good := [][]float64{{1, 2}, {3}}
	checkSolve(t, text, nil, 9, good, impl.Result{Steps: 4, Peak: 7, Outs: [][]float64{{3, 6}}})
	wrong := [][][]float64{nil, {}, {{1, 2}}, {{1, 2}, {}}, {{1, 2}, nil}, {{1, 2, 3}, {3}}, {{1}, {3}}, {{1, 2}, {3, 4}}, {{3}, {1, 2}}, {{1, 2}, {3}, {}}, {{1, 2}, {3}, {4}}}
	for _, inputs := range wrong {
		checkSolve(t, text, nil, 9, inputs, impl.Result{Code: impl.CodeShape, Peak: 7})
		checkSolve(t, text, []int{0, 1, 2, 3, 4}, 7, inputs, impl.Result{Code: impl.CodeShape, Peak: 7})
		checkSolve(t, text, nil, 6, inputs, impl.Result{Code: impl.CodeBudget})
		checkSolve(t, text, []int{0, 5}, 9, inputs, impl.Result{Code: impl.CodePass, At: 1})
		checkSolve(t, text+"x", nil, 9, inputs, impl.Result{Code: impl.CodeSyntax, At: len(text)})
		checkSolve(t, text+"out z;", nil, 9, inputs, impl.Result{Code: impl.CodeName, At: len(text) + 4})
	}
	// inputs are asked for also where nothing needs them, and where there is no cell at all
	checkSolve(t, "in x : 2 ; out 7 ;", []int{impl.PassDead}, 1, nil, impl.Result{Code: impl.CodeShape, Peak: 1})
	checkSolve(t, "in x : 2 ; out 7 ;", []int{impl.PassDead}, 1, [][]float64{{1, 2}}, impl.Result{Steps: 1, Peak: 1, Outs: [][]float64{{7}}})
	if got := solved(t, "in x : 2 ;", []int{impl.PassDead}, 0, nil); !sameResult(got, impl.Result{Code: impl.CodeShape}) {
		t.Errorf("%+v", got)
	}
	if got := solved(t, "", nil, 0, [][]float64{{}}); !sameResult(got, impl.Result{Code: impl.CodeShape}) {
		t.Errorf("%+v", got)
	}
}

// P16: NaNs, infinities and zeros of both signs come through every list of passes unchanged.
func TestSolveOfEdgeInputs(t *testing.T) {
	texts := append(gradientSources(), "in x : 2 ; out x ; out - - x ; out x * 1 ; out x / 1 ; out x - 0 ; out x + - 0 ; out max(x, x) ; out sel(x, x, - x) ;")
	lists := [][]int{nil, {0}, {1}, {2}, {3}, {4}, {2, 4, 3, 1, 0}, {4, 3, 2, 1, 0, 4, 3, 2, 1, 0}}
	for _, text := range texts {
		g, _, _ := impl.ParseSource([]byte(text))
		for _, inputs := range inputsToTry(&source{131}, g) {
			want, _ := impl.Eval(g, inputs)
			for _, passes := range lists {
				if got := solved(t, text, passes, impl.MaxCells, inputs); got.Code != impl.CodeOK || !sameLists(got.Outs, want) {
					t.Errorf("%s passes %v inputs %v:\n got %+v\nwant %v", text, passes, inputs, got, want)
				}
			}
		}
	}
}
