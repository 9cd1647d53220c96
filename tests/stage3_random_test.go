package tests

import (
	"maps"
	"slices"
	"strconv"
	"testing"

	"loop.example/s08086/impl"
)

// shapes are the lengths of a function's parameters and of its value.
type shapes struct {
	params []int
	value  int
}

// maker makes statements most of which carry out well; one in so many choices slips.
type maker struct {
	s      *source
	long   int
	slips  int
	values map[string]int
	params map[string]int
	defs   map[string]shapes
}

func newMaker(s *source) *maker {
	longs := []int{2, 3, 400, 1000, 1000}
	slips := []int{40, 200, 1000000}
	return &maker{s: s, long: longs[s.below(len(longs))], slips: slips[s.below(len(slips))], values: map[string]int{}, defs: map[string]shapes{}}
}

func (m *maker) slip() bool {
	return m.s.below(m.slips) == 0
}

func (m *maker) one(words ...string) string {
	return words[m.s.below(len(words))]
}

func (m *maker) length() int {
	return []int{1, m.long}[m.s.below(2)]
}

// known answers a name that stands for a value of n elements, or "".
func (m *maker) known(n int) string {
	if m.slip() {
		return m.one("a", "b", "c", "x", "y", "p", "q", "f", "nothing")
	}
	found := []string{}
	for _, name := range slices.Sorted(maps.Keys(m.values)) {
		if _, hidden := m.params[name]; !hidden && m.values[name] == n {
			found = append(found, name)
		}
	}
	for _, name := range slices.Sorted(maps.Keys(m.params)) {
		if m.params[name] == n {
			found = append(found, name, name)
		}
	}
	if len(found) == 0 {
		return ""
	}
	return m.one(found...)
}

// count answers an int as text.
func (m *maker) count(n int) string {
	if m.slip() {
		n = []int{0, 1, 2, 3, 4, 999, 1000, 1001, 999999999999999}[m.s.below(9)]
	}
	return m.one("", "", "", "0") + strconv.Itoa(n)
}

// leaf answers a small expression of n elements.
func (m *maker) leaf(n int) *tree {
	if name := m.known(n); name != "" && m.s.below(4) > 0 {
		return &tree{kind: "name", words: []string{name}}
	}
	number := m.one("0", "1", "2", "0.5", "2.50", "10", "007", "3.3", "12345678901234", "0.0000000000001")
	if m.s.below(2000) == 0 {
		number = m.one("1234567890123456", "1.234567890123456", "999999999999999", "0.00000000000001")
	}
	leaf := &tree{kind: "number", words: []string{number}}
	if n == 1 {
		return leaf
	}
	return &tree{kind: "fill", words: []string{m.count(n)}, of: []*tree{leaf}}
}

// some answers an expression of n elements, or of 1 where one would be filled.
func (m *maker) some(n, depth int) *tree {
	if m.s.below(4) == 0 {
		n = 1
	}
	return m.expression(n, depth)
}

// expression answers an expression of n elements.
func (m *maker) expression(n, depth int) *tree {
	if m.slip() {
		n = 1 + m.s.below(4)
	}
	depth--
	if depth < 0 {
		return m.leaf(n)
	}
	switch m.s.below(10) {
	case 0:
		return m.leaf(n)
	case 1:
		return &tree{kind: m.one("neg", "exp"), of: []*tree{m.expression(n, depth)}}
	case 2, 3:
		return &tree{kind: m.one("+", "-", "*", "/", "max"), of: []*tree{m.expression(n, depth), m.some(n, depth)}}
	case 4:
		return &tree{kind: m.one("+", "-", "*", "/", "max"), of: []*tree{m.some(n, depth), m.expression(n, depth)}}
	case 5:
		of := []*tree{m.some(n, depth), m.some(n, depth), m.some(n, depth)}
		of[m.s.below(3)] = m.expression(n, depth)
		return &tree{kind: "sel", of: of}
	case 6:
		return m.call(n, depth)
	case 7:
		return m.derived(n, depth)
	}
	if n == 1 {
		return m.single(depth)
	}
	if m.s.below(2) == 0 {
		return &tree{kind: "fill", words: []string{m.count(n)}, of: []*tree{m.expression(1, depth)}}
	}
	return &tree{kind: "put", words: []string{m.count(m.s.below(n)), m.count(n)}, of: []*tree{m.expression(1, depth)}}
}

func (m *maker) single(depth int) *tree {
	n := m.length()
	switch m.s.below(3) {
	case 0:
		return &tree{kind: "sum", of: []*tree{m.expression(n, depth)}}
	case 1:
		return &tree{kind: "dot", of: []*tree{m.expression(n, depth), m.some(n, depth)}}
	}
	return &tree{kind: "pick", words: []string{m.count(m.s.below(n))}, of: []*tree{m.expression(n, depth)}}
}

func (m *maker) call(n, depth int) *tree {
	if m.slip() {
		return &tree{kind: "call", words: []string{m.one("f", "g", "h", "a")}, of: []*tree{m.leaf(1)}}
	}
	for _, name := range slices.Sorted(maps.Keys(m.defs)) {
		def := m.defs[name]
		if def.value != n || m.s.below(2) == 0 {
			continue
		}
		e := &tree{kind: "call", words: []string{name}}
		for _, p := range def.params {
			e.of = append(e.of, m.expression(p, depth))
		}
		return e
	}
	return m.leaf(n)
}

func (m *maker) derived(n, depth int) *tree {
	if m.s.below(2) == 0 {
		if x := m.known(n); x != "" {
			return &tree{kind: "grad", words: []string{x}, of: []*tree{m.expression(1, depth)}}
		}
	}
	of := m.length()
	if x := m.known(of); x != "" {
		return &tree{kind: "jvp", words: []string{x}, of: []*tree{m.expression(n, depth), m.some(of, depth)}}
	}
	return m.leaf(n)
}

// fresh answers a name that stands for nothing yet, mostly.
func (m *maker) fresh(names ...string) string {
	for range 10 {
		name := m.one(names...)
		_, value := m.values[name]
		if _, def := m.defs[name]; m.slip() || !value && !def {
			return name
		}
	}
	return "n" + strconv.Itoa(len(m.values)+len(m.defs))
}

func (m *maker) line() *line {
	n := m.length()
	depth := 1 + m.s.below(3)
	switch m.s.below(7) {
	case 0:
		l := &line{kind: "in", words: []string{m.fresh("a", "b", "c", "x", "y", "p"), m.count(n)}}
		m.values[l.words[0]] = n
		return l
	case 1:
		l := &line{kind: "let", words: []string{m.fresh("a", "b", "c", "x", "y", "q")}, of: m.expression(n, depth)}
		m.values[l.words[0]] = n
		return l
	case 2, 3:
		if name := m.known(n); name != "" {
			times := []int{0, 1, 1, 2, 2, 3, 5, 30, 99, 100}[m.s.below(10)]
			if m.slip() {
				times = 101
			}
			return &line{kind: "repeat", words: []string{strconv.Itoa(times), name}, of: m.expression(n, depth)}
		}
	case 4:
		return m.definition(n, depth)
	}
	return &line{kind: "out", of: m.expression(n, depth)}
}

func (m *maker) definition(n, depth int) *line {
	l := &line{kind: "def", words: []string{m.fresh("f", "g", "h")}}
	def := shapes{value: n}
	m.params = map[string]int{}
	for range m.s.below(4) {
		name := m.one("p", "q", "r", "a", "x", "f")
		if _, twice := m.params[name]; twice && !m.slip() {
			continue
		}
		m.params[name] = m.length()
		def.params = append(def.params, m.params[name])
		l.words = append(l.words, name)
	}
	if m.s.below(6) == 0 {
		m.defs[l.words[0]] = def // so that it may call itself
	}
	l.of = m.expression(n, depth)
	m.defs[l.words[0]] = def
	m.params = nil
	return l
}

func anyLines(s *source) []*line {
	m := newMaker(s)
	lines := []*line{}
	for range 2 + s.below(14) {
		lines = append(lines, m.line())
	}
	return lines
}

// P7: what any source answers, against a second reading of 3.3; then what is outside the grammar once bytes are changed.
func TestSourceAgainstReference(t *testing.T) {
	s := &source{60}
	g := newGrammar(grammarText)
	codes := map[int]int{}
	ends := map[string]int{}
	for round := range 6000 {
		lines := anyLines(s)
		text := written(s, lines)
		want, wantCode, wantAt := wantSource(text, lines)
		got, code, at := parsed(t, text)
		if code != wantCode || at != wantAt || !sameGraph(got, want) {
			t.Fatalf("round %d: %s\n got code %d at %d, %.300s\nwant code %d at %d, %.300s", round, plain(text), code, at, told(got), wantCode, wantAt, told(want))
		}
		codes[code]++
		if code == impl.CodeLimit {
			tokens, _ := wantTokens(text[at:])
			ends[tokens[0].text]++
		}
		if round%4 == 0 && len(text) < 600 {
			checkSyntax(t, g, withBytesChanged(s, text))
		}
	}
	for _, c := range []int{impl.CodeOK, impl.CodeName, impl.CodeShape, impl.CodeLimit} {
		if codes[c] < 300 {
			t.Errorf("code %d was answered %d times: not much of a test", c, codes[c])
		}
	}
	for _, word := range []string{"+", "-", "sel", "dot", "fill", "put", "grad", "jvp", "f", "h"} {
		if ends[word] == 0 {
			t.Errorf("no limit was broken at %s: not much of a test", word)
		}
	}
}

func withBytesChanged(s *source, text string) string {
	out := []byte(text)
	for range 1 + s.below(2) {
		at := s.below(len(out))
		c := "abinx019._ +-*/(),;:=#@\n"[s.below(24)]
		switch s.below(3) {
		case 0:
			out[at] = c
		case 1:
			out = slices.Insert(out, at, c)
		case 2:
			out = slices.Delete(out, at, at+1)
		}
	}
	return string(out)
}
