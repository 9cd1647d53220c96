package tests

import (
	"bytes"
	"encoding/binary"
	"slices"
	"strconv"
	"strings"
	"testing"

	"loop.example/s08086/impl"
)

// P14: codes drawn at random and the plans of graphs, saved and loaded; then the same bytes with some of them changed.
func TestSaveAndLoadOfAnyCode(t *testing.T) {
	s := &source{170}
	codes := map[int]int{}
	for round := range 4000 {
		c := anyCode(s)
		if round%2 == 0 {
			c, _ = impl.Plan(gappy(s, s.below(30)), impl.MaxCells)
		}
		b := saved(t, c)
		if back, code := loaded(t, b); code != impl.CodeOK || !sameCodeByNaN(back, plainCode(c)) {
			t.Fatalf("%s\nis loaded with code %d as %s", toldCode(c), code, toldCode(back))
		}
		for range 6 {
			_, code := loaded(t, changedBytes(s, b))
			codes[code]++
		}
		changed := copyCode(c)
		changeCode(s, &changed)
		saved(t, changed)
	}
	if codes[impl.CodeOK] < 2000 || codes[impl.CodeBad] < 10000 {
		t.Errorf("%v: not much of a test", codes)
	}
}

// changedBytes answers the bytes with one or two places of them changed, taken out or put in.
func changedBytes(s *source, b []byte) []byte {
	b = slices.Clone(b)
	for range 1 + s.below(2) {
		at := s.below(len(b))
		switch s.below(8) {
		case 0:
			b = slices.Insert(b, at, byte(s.below(256)))
		case 1:
			b = slices.Delete(b, at, at+1)
		case 2:
			b[at] = byte(s.below(256))
		case 3:
			b[at] += byte(s.below(3)) - 1
		case 4:
			binary.LittleEndian.PutUint16(b[min(at, len(b)-2):], uint16(s.below(20)))
		default:
			b[at] ^= 1 << s.below(8)
		}
		if len(b) < 2 {
			return b
		}
	}
	return b
}

// P14: two codes that are not the same are not saved as the same.
func TestSavedCodesDiffer(t *testing.T) {
	s := &source{171}
	apart := 0
	for range 6000 {
		c := anyCode(s)
		d := copyCode(c)
		changeCode(s, &d)
		if len(c.Steps) > 0 && s.below(3) == 0 {
			d.Steps[s.below(len(d.Steps))].K = someFloats(s, 1)[0]
		}
		if !wantVerify(d) {
			continue
		}
		same := sameCode(plainCode(c), plainCode(d))
		if bytes.Equal(saved(t, c), saved(t, d)) != same {
			t.Fatalf("%s\n%s", toldCode(c), toldCode(d))
		}
		if !same {
			apart++
		}
	}
	if apart < 300 {
		t.Errorf("%d pairs: not much of a test", apart)
	}
}

// P14: lists of bytes that nobody saved.
func TestLoadCodeOfAnyBytes(t *testing.T) {
	s := &source{172}
	good := 0
	for range 60000 {
		b := []byte{71, 76}
		size := []int{8, 10, 12, 21, 23, 29, 31, s.below(60)}[s.below(8)]
		for range size {
			b = append(b, []byte{0, 0, 0, 0, 0, 0, 0, 0, 0, 1, 1, byte(s.below(256))}[s.below(12)])
		}
		if _, code := loaded(t, b); code == impl.CodeOK {
			good++
		}
	}
	if good < 500 {
		t.Errorf("%d codes: not much of a test", good)
	}
}

// P14 and P15: the codes and the graphs of sources.
func TestSavedAndTextOfSources(t *testing.T) {
	s := &source{173}
	texts := slices.Concat(gradientSources(), []string{valuesText(impl.MaxVals), elementsText(impl.MaxCells)})
	for len(texts) < 400 {
		text := written(s, anyLines(s))
		if _, code, _ := impl.ParseSource([]byte(text)); code == impl.CodeOK {
			texts = append(texts, text)
		}
	}
	graphs, codes := map[string]impl.Graph{}, map[string]impl.Code{}
	for _, text := range texts {
		for _, passes := range [][]int{nil, {0}, {2, 4, 3, 1, 0}} {
			g, _, _ := impl.ParseSource([]byte(text))
			g, _ = impl.Optimise(g, passes)
			told := texted(t, g)
			if h, ok := graphs[told]; ok && !sameMeaning(g, h) {
				t.Fatalf("two graphs with the text %q", told)
			}
			graphs[told] = g
			c, _, _ := impl.Compile([]byte(text), passes, impl.MaxCells)
			b := string(saved(t, c))
			if d, ok := codes[b]; ok && !sameCodeByNaN(c, d) {
				t.Fatalf("two codes are saved as %q", b)
			}
			codes[b] = c
			inputs := inputsFor(s, g)
			back, _ := impl.LoadCode([]byte(b))
			want, steps, _ := impl.RunCode(c, inputs)
			if got, n, code := impl.RunCode(back, inputs); code != impl.CodeOK || n != steps || !sameLists(got, want) {
				t.Fatalf("%s: the loaded code answers %v, not %v", text, got, want)
			}
		}
	}
	if len(graphs) < 500 || len(codes) < 500 {
		t.Errorf("%d graphs, %d codes: not much of a test", len(graphs), len(codes))
	}
}

// P15: the texts of graphs drawn at random, and of graphs in which one number was changed.
func TestGraphTextOfAnyGraph(t *testing.T) {
	s := &source{174}
	graphs := map[string]impl.Graph{}
	empty := 0
	for round := range 6000 {
		g := anyGraph(s)
		switch round % 4 {
		case 1:
			g = knotted(s, s.below(30))
		case 2:
			g = gappy(s, s.below(30))
		case 3:
			g = closeGraph(s, 4+s.below(10))
			g.Ins = slices.Clone(g.Ins)
			changeOneNumber(s, g)
		}
		told := texted(t, g)
		if !wantValid(g) {
			empty++
			continue
		}
		if h, ok := graphs[told]; ok && !sameMeaning(g, h) {
			t.Fatalf("two graphs with the text %q", told)
		}
		graphs[told] = g
	}
	if len(graphs) < 3000 || empty < 500 {
		t.Errorf("%d texts, %d faulty graphs: not much of a test", len(graphs), empty)
	}
}

// sessionMaker draws sessions from a few sources, passes and budgets each, so that runs meet again.
type sessionMaker struct {
	s       *source
	sources []string
	passes  []string
	budgets []string
	source  string // the last that was set
}

func newSessionMaker(s *source) *sessionMaker {
	sources := slices.Concat(gradientSources(), []string{"", "#", "# ", "out 1;", "out 1 ;", "in x:1;out x*x;", "in x:1;out x*x;out x*x;", "in x:2;in y:1;out x*y;out exp(y);",
		"in x:3;out sum(x);out - x;", "in x:1;", "out w;", "out", "in x:0;", "out 1/0;out 0/0;", "out 1234567890123456;", "in x:1;out x\x00;", "in x : 2 ; out fill(sum(x), 30) ;"})
	passes := []string{"", "", "0", "1", "10", "01", "00", "42310", "2", "5", "019", strings.Repeat("0", 50), strings.Repeat("1", 51)}
	budgets := []string{"50000", "050000", "999999", "0", "1", "2", "3", "4", "7", "000007", "12", "30", "33", "60"}
	some := func(list []string, n int) []string {
		out := []string{}
		for range n {
			out = append(out, list[s.below(len(list))])
		}
		return out
	}
	return &sessionMaker{s: s, sources: some(sources, 1+s.below(6)), passes: some(passes, 1+s.below(3)), budgets: some(budgets, 1+s.below(3))}
}

func (m *sessionMaker) one(list ...string) string {
	return list[m.s.below(len(list))]
}

func (m *sessionMaker) command() string {
	switch m.s.below(12) {
	case 0, 1, 2:
		m.source = m.one(m.sources...)
		return "P" + m.source
	case 3:
		return "O" + m.one(m.passes...)
	case 4:
		return "B" + m.one(m.budgets...)
	case 5:
		return m.one("", " ", "Q", "x", "p", " X", "o1", "O-", "O1 ", "B", "B1234567", "Ba", "B 1", "X;", "X-", "X1;", "X1.", "X1\t2", "X--1", "X1234567890123456")
	}
	return "X" + m.inputs()
}

// inputs answers what may stand after an X; it mostly fits the source.
func (m *sessionMaker) inputs() string {
	g, _, _ := impl.ParseSource([]byte(m.source))
	lens := g.Ins
	if m.s.below(5) == 0 {
		lens = make([]int, m.s.below(3))
		for i := range lens {
			lens[i] = 1 + m.s.below(3)
		}
	}
	parts := []string{}
	for _, n := range lens {
		numbers := []string{}
		for range n {
			numbers = append(numbers, m.one("", "-")+m.one("0", "1", "2.5", "0.1", "100", "0.000", strconv.Itoa(m.s.below(1000))))
		}
		parts = append(parts, m.one("", " ", "  ")+strings.Join(numbers, m.one(" ", "  "))+m.one("", " "))
	}
	return strings.Join(parts, ";")
}

func (m *sessionMaker) session(n int) string {
	commands := []string{}
	for range n {
		commands = append(commands, m.command())
	}
	return strings.Join(commands, "\n") + m.one("", "\n")
}

// P17 and P18: sessions drawn at random.
func TestRunSessionOfAnySession(t *testing.T) {
	s := &source{175}
	codes, hits, misses := map[int]int{}, 0, 0
	for round := range 3000 {
		n := s.below(40)
		if round%50 == 0 {
			n = impl.MaxCommands - 2 + s.below(4)
		}
		for _, r := range replied(t, newSessionMaker(s).session(n)) {
			codes[r.Result.Code]++
			if r.Hit {
				hits++
			} else if r.Result.Code == impl.CodeOK {
				misses++
			}
		}
	}
	for _, c := range []int{impl.CodeOK, impl.CodeSyntax, impl.CodeName, impl.CodeShape, impl.CodeLimit, impl.CodePass, impl.CodeBudget} {
		if codes[c] < 20 {
			t.Errorf("code %d was answered %d times: not much of a test", c, codes[c])
		}
	}
	if hits < 8000 || misses < 2000 {
		t.Errorf("%d hits, %d that are none: not much of a test", hits, misses)
	}
}

// P18: long sessions of runs over some more keys than the cache holds.
func TestCacheOfAnySession(t *testing.T) {
	s := &source{176}
	hits, again := 0, 0
	for range 300 {
		keys := 3 + s.below(6)
		text := ""
		seen := map[int]int{}
		runs := []int{}
		for range 60 {
			k := s.below(keys)
			text += "Pout " + strconv.Itoa(k/2) + ";\nO" + strings.Repeat("0", k%2) + "\nX\n"
			runs = append(runs, k)
		}
		for i, r := range replied(t, text) {
			if r.Hit {
				hits++
			} else if seen[runs[i]] > 0 {
				again++
			}
			seen[runs[i]]++
		}
	}
	if hits < 5000 || again < 3000 {
		t.Errorf("%d hits, %d codes that came in again: not much of a test", hits, again)
	}
}

// P17 and P18: sessions in which bytes were changed.
func TestRunSessionOfChangedSessions(t *testing.T) {
	s := &source{177}
	codes := map[int]int{}
	for range 4000 {
		text := newSessionMaker(s).session(3 + s.below(12))
		for range 1 + s.below(6) {
			b := []byte(text)
			at := s.below(len(b))
			c := "POBXpx019.- ;\n\t\x00\xff"[s.below(17)]
			switch s.below(3) {
			case 0:
				b[at] = c
			case 1:
				b = slices.Insert(b, at, c)
			default:
				b = slices.Delete(b, at, at+1)
			}
			if len(b) == 0 {
				break
			}
			text = string(b)
		}
		for _, r := range replied(t, text) {
			codes[r.Result.Code]++
		}
	}
	if codes[impl.CodeSyntax] < 5000 || codes[impl.CodeOK] < 4000 {
		t.Errorf("%v: not much of a test", codes)
	}
}

// P17: the results of random sessions, held against a second reading of the passes, the plan and the machine.
func TestRunSessionBySecondReading(t *testing.T) {
	s := &source{178}
	runs := 0
	for range 150 {
		m := newSessionMaker(s)
		source, passes, budget := m.one(m.sources...), m.one(m.passes...), m.one(m.budgets...)
		m.source = source
		text := "P" + source + "\nO" + passes + "\nB" + budget + "\n"
		commands := []string{}
		for range 5 {
			commands = append(commands, "X"+m.inputs())
		}
		key := three{source, passes, readInt(t, budget)}
		for i, r := range replied(t, text+strings.Join(commands, "\n")) {
			inputs, _ := wantInputs(commands[i])
			if want := wantSolve(source, key.list(), key.budget, inputs); !sameResult(r.Result, want) {
				t.Fatalf("%s%s\n got %s\nwant %s", text, commands[i], toldReply(r), toldReply(impl.Reply{Result: want}))
			}
			if r.Result.Code == impl.CodeOK {
				runs++
			}
		}
	}
	if runs < 80 {
		t.Errorf("%d runs: not much of a test", runs)
	}
}
