package tests

import (
	"bytes"
	"slices"
	"strconv"
	"strings"
	"testing"

	"loop.example/s08086/impl"
)

// withMore answers the same bytes with others in the memory behind their end, and what looks after all of it.
func withMore(b []byte, more string) ([]byte, func() bool) {
	whole := append(slices.Clone(b), more...)
	kept := slices.Clone(whole)
	return whole[:len(b)], func() bool { return bytes.Equal(whole, kept) }
}

// saved calls SaveCode and looks at what holds for every call, P14 with it.
func saved(t *testing.T, c impl.Code) []byte {
	t.Helper()
	var got []byte
	given, untouched := roomyCode(c)
	mustPanicNever(t, "SaveCode", func() { got = impl.SaveCode(given) })
	if !untouched() {
		t.Fatalf("the code is written to: %s", toldCode(c))
	}
	if want := wantSave(c); !bytes.Equal(got, want) {
		t.Fatalf("%.1000s\n got %v\nwant %v", toldCode(c), got, want)
	}
	if len(got) == 0 {
		return got
	}
	if back, code := impl.LoadCode(got); code != impl.CodeOK || !sameCodeByNaN(back, plainCode(c)) {
		t.Fatalf("%.1000s\nis loaded with code %d: %.1000s", toldCode(c), code, toldCode(back))
	}
	return got
}

// loaded calls LoadCode and looks at what holds for every call, P14 with it.
func loaded(t *testing.T, b []byte) (impl.Code, int) {
	t.Helper()
	var got impl.Code
	var code int
	given, untouched := withMore(b, "\x00\x00\x00\x00\x00\x00\x00\x00\x00\x00")
	mustPanicNever(t, "LoadCode", func() { got, code = impl.LoadCode(given) })
	if !untouched() {
		t.Fatalf("the bytes are written to: %v", b)
	}
	want, wantCode := wantLoad(b)
	if code != wantCode || !sameCodeByNaN(got, want) {
		t.Fatalf("%v\ncode %d, want %d\n got %.1000s\nwant %.1000s", b, code, wantCode, toldCode(got), toldCode(want))
	}
	if again := impl.SaveCode(got); code == impl.CodeOK && !bytes.Equal(again, b) {
		t.Fatalf("%v\nis loaded and saved as %v", b, again)
	}
	return got, code
}

// checkBad takes bytes that are no saved code.
func checkBad(t *testing.T, what string, b []byte) {
	t.Helper()
	if c, code := loaded(t, b); code != impl.CodeBad || !sameCode(c, impl.Code{}) {
		t.Errorf("%s: code %d, %s, of %v", what, code, toldCode(c), b)
	}
}

// texted calls GraphText and looks at what holds for every call, P15 with it: the graph can be read back from its text.
func texted(t *testing.T, g impl.Graph) string {
	t.Helper()
	var got []byte
	given, untouched := roomy(g)
	mustPanicNever(t, "GraphText", func() { got = impl.GraphText(given) })
	if !untouched() {
		t.Fatalf("the graph is written to: %+v", g)
	}
	if want := wantText(g); string(got) != want {
		t.Fatalf("%+v\n got %q\nwant %q", g, got, want)
	}
	if !wantValid(g) {
		return string(got)
	}
	if back := readText(t, string(got)); !sameMeaning(back, g) {
		t.Fatalf("%s\nis read back as %s", told(g), told(back))
	}
	return string(got)
}

// readText reads what GraphText writes.
func readText(t *testing.T, text string) impl.Graph {
	t.Helper()
	g := impl.Graph{}
	for _, line := range strings.Split(strings.TrimSuffix(text, "\n"), "\n") {
		words := strings.Fields(line)
		switch {
		case len(words) == 0:
		case words[0] == "in":
			g.Ins = append(g.Ins, readInt(t, words[1]))
		case words[0] == "out":
			g.Outs = append(g.Outs, readInt(t, words[1][1:]))
		default:
			g.Vals = append(g.Vals, readVal(t, words[2:]))
		}
	}
	return g
}

func readVal(t *testing.T, words []string) impl.Val {
	t.Helper()
	v := impl.Val{}
	for ruleOf(v.Op).name != words[0] {
		v.Op++
	}
	last := len(words) - 1
	v.Len = readInt(t, words[last])
	parts := words[1 : last-1]
	switch v.Op {
	case impl.OpInput:
		v.A = readInt(t, parts[0])
		return v
	case impl.OpConst:
		bits, err := strconv.ParseUint(parts[0], 16, 64)
		if err != nil {
			t.Fatal(err)
		}
		v.K = impl.FloatFrom(bits)
		return v
	}
	fields := []*int{&v.A, &v.B, &v.C}
	for k, part := range parts {
		if part[0] == '@' {
			k = 2
		}
		*fields[k] = readInt(t, part[1:])
	}
	return v
}

// replied calls RunSession and looks at what holds for every call, P17 and P18 with it.
func replied(t *testing.T, text string) []impl.Reply {
	t.Helper()
	var got []impl.Reply
	given, untouched := withMore([]byte(text), "\nX\nX 1\n")
	mustPanicNever(t, text, func() { got = impl.RunSession(given) })
	if !untouched() {
		t.Fatalf("%.300q: the text is written to", text)
	}
	want := wantSession(text)
	if !slices.EqualFunc(got, want, sameReply) {
		t.Fatalf("%.1000q\n got %.1000s\nwant %.1000s", text, toldReplies(got), toldReplies(want))
	}
	return got
}

func sameReply(r, q impl.Reply) bool {
	return r.Hit == q.Hit && sameResult(r.Result, q.Result)
}

// toldReplies answers replies in few words: hit, the code, behind @ the offset, the steps and the peak with a stroke
// between them, and the outputs, each with commas between its elements. Zeros are left out.
func toldReplies(replies []impl.Reply) string {
	parts := []string{}
	for _, r := range replies {
		parts = append(parts, toldReply(r))
	}
	return strings.Join(parts, "; ")
}

func toldReply(r impl.Reply) string {
	codes := []string{"ok", "bad", "syntax", "name", "shape", "limit", "pass", "budget"}
	words := []string{codes[r.Result.Code]}
	if r.Hit {
		words = []string{"hit", codes[r.Result.Code]}
	}
	if r.Result.At != 0 {
		words = append(words, "@"+strconv.Itoa(r.Result.At))
	}
	if r.Result.Steps != 0 || r.Result.Peak != 0 {
		words = append(words, strconv.Itoa(r.Result.Steps)+"/"+strconv.Itoa(r.Result.Peak))
	}
	for _, out := range r.Result.Outs {
		elements := []string{}
		for _, f := range out {
			elements = append(elements, strconv.FormatFloat(f, 'g', -1, 64))
		}
		words = append(words, strings.Join(elements, ","))
	}
	return strings.Join(words, " ")
}

// checkSession takes a session, with | for newlines, and its replies as toldReplies tells them.
func checkSession(t *testing.T, session, want string) {
	t.Helper()
	if got := toldReplies(replied(t, strings.ReplaceAll(session, "|", "\n"))); got != want {
		t.Errorf("%s\n got %s\nwant %s", session, got, want)
	}
}

// checkNotAsSaid takes commands that are not as said. They are looked at alone and between two runs.
func checkNotAsSaid(t *testing.T, commands ...string) {
	t.Helper()
	for _, command := range commands {
		for _, text := range []string{command, command + "\n"} {
			if text == "" {
				continue
			}
			if got := toldReplies(replied(t, text)); got != "syntax" {
				t.Errorf("%q: %s", text, got)
			}
		}
		got := toldReplies(replied(t, "Pin x:2;out x*3;\nO1\nB9\nX1 2\n"+command+"\nX3 4\n"))
		if want := "ok 4/7 3,6; syntax; hit ok 4/7 9,12"; got != want {
			t.Errorf("%q between two runs: %s", command, got)
		}
	}
}
