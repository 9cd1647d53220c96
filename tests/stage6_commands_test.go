package tests

import (
	"fmt"
	"math"
	"strconv"
	"strings"
	"testing"

	"loop.example/s08086/impl"
)

// P17: ordinary sessions.
func TestRunSession(t *testing.T) {
	checkSession(t, "Pin x:1; out x*x+0.5;|X3|X-4", "ok 4/3 9.5; hit ok 4/3 16.5")
	checkSession(t, "X", "ok")
	checkSession(t, "Pin x : 2 ; out grad(sum(x * x), x) ;|X 3 -4|O10|X 3 -4|B7|X 3 -4", "ok 8/9 6,-8; ok 5/7 6,-8; ok 5/7 6,-8")
	checkSession(t, "Pin x:2;in y:1;out x*y;out y;|X1 2;3|X1|X1 2|X3;1 2|X1 2;3;4|X-1 0.25 ; 8 ", "ok 4/7 3,6 3; hit shape 0/7; hit shape 0/7; hit shape 0/7; hit shape 0/7; hit ok 4/7 -8,2 8")
	checkSession(t, "Pout 1 / 0;out 0 / 0;out -0;|X", "ok 8/4 +Inf NaN -0")
	checkSession(t, "Pin x:1;out x|X1|Pin x:1;out w;|X1|Pin x:0;|X1|Pout 1234567890123456;|X1", "syntax @12; name @11; shape @5; limit @4")
	checkSession(t, "Pin x:1;out x;|O05|X1|O0|B0|X1|B1|X1", "pass @1; budget; ok 1/1 1")
	// a command gives a reply only when it runs or is not as said
	checkSession(t, "P|O|B1|P|O|B2", "")
}

// P17: how a text is cut into commands.
func TestRunSessionCutsAtNewlines(t *testing.T) {
	checkSession(t, "", "")
	checkSession(t, "X", "ok")
	checkSession(t, "X|", "ok")
	checkSession(t, "X||", "ok; syntax")
	checkSession(t, "|X", "syntax; ok")
	checkSession(t, "X||X", "ok; syntax; hit ok")
	checkSession(t, "|", "syntax")
	checkSession(t, "||", "syntax; syntax")
	checkSession(t, "|||||", "syntax; syntax; syntax; syntax; syntax")
	checkSession(t, "P|X", "ok")
	checkSession(t, "Pout 1;X|X", "syntax @6")
	// no other byte ends a command
	for _, c := range []string{"\r", "\r\n", "\x00", "\v", "\f", "\u0085", "\u2028"} {
		if got := toldReplies(replied(t, "X"+c+"X")); !strings.HasPrefix(got, "syntax") {
			t.Errorf("%q: %s", c, got)
		}
	}
	checkSession(t, "X\r|X", "syntax; ok")
}

// P17: MaxCommands commands are followed; with one more there is one reply.
func TestRunSessionOfManyCommands(t *testing.T) {
	fills := []string{"X", "", "Q", "P", "Pout 1;", "O", "B1", "B", "X1", "x"}
	for _, fill := range fills {
		most := strings.Repeat(fill+"\n", impl.MaxCommands)
		got := replied(t, most)
		want := impl.MaxCommands
		if strings.HasPrefix(fill, "P") || fill == "O" || fill == "B1" {
			want = 0
		}
		if len(got) != want {
			t.Errorf("%q: %d replies", fill, len(got))
		}
		if fill != "" {
			if again := replied(t, strings.TrimSuffix(most, "\n")); toldReplies(again) != toldReplies(got) {
				t.Errorf("%q: without the last newline %s", fill, toldReplies(again))
			}
		}
		for _, more := range []string{"X", "\n", "X\n", "P", "Q", "O\n", " ", "\n\n\n", strings.Repeat("X\n", 5000)} {
			if got := toldReplies(replied(t, most+more)); got != "limit" {
				t.Errorf("%q and %.20q: %.200s", fill, more, got)
			}
		}
		if got := toldReplies(replied(t, "X\n"+most)); got != "limit" {
			t.Errorf("%q: %.200s", fill, got)
		}
	}
	one := replied(t, strings.Repeat("\n", impl.MaxCommands+1))
	if len(one) != 1 || one[0].Hit || !sameResult(one[0].Result, impl.Result{Code: impl.CodeLimit}) {
		t.Errorf("%+v", one)
	}
	// long commands are no more than others
	long := "P" + strings.Repeat("#", 300000) + "\nX\n"
	checkSession(t, long+"Pout 1;|X", "limit; ok 1/1 1")
}

// P17: the source is all bytes after a P.
func TestRunSessionOfSources(t *testing.T) {
	checkSession(t, "P|X", "ok")
	checkSession(t, "Pout 7;|X|P|X", "ok 1/1 7; ok")
	checkSession(t, "P out 7;|X|P  out 7;|X", "ok 1/1 7; ok 1/1 7")
	checkSession(t, "PPout 7;|X|POut 7;|X", "syntax; syntax")
	checkSession(t, "Pout 7; # P X O B|X", "ok 1/1 7")
	checkSession(t, "Pout 1;|Pout 2;|X", "ok 1/1 2")
	for c := range 256 {
		if c == '\n' {
			continue
		}
		for _, form := range []string{"P%s\nX\n", "Pout 1;%s\nX\n", "Pout 1;#%sout 2;\nX", "Pout %s1;\nX\nX\n", "Pin x%s:1;out x;\nX1"} {
			replied(t, fmt.Sprintf(form, string([]byte{byte(c)})))
		}
		if got := toldReplies(replied(t, "Pout 1;# "+string([]byte{byte(c), byte(c)})+"\nX\n")); got != "ok 1/1 1" {
			t.Errorf("a comment with byte %d: %s", c, got)
		}
	}
	for _, n := range []int{impl.MaxSource - 1, impl.MaxSource, impl.MaxSource + 1, impl.MaxSource + 2} {
		want := "ok 1/1 1"
		if n > impl.MaxSource {
			want = "limit"
		}
		checkSession(t, "Pout 1;"+strings.Repeat(" ", n-6)+"|X", want)
	}
}

// P17: the passes are the digits after an O, any number of them.
func TestRunSessionOfPasses(t *testing.T) {
	common := "Pin x:1;out x*x;out x*x;|"
	checkSession(t, common+"X3", "ok 3/3 9 9")
	checkSession(t, common+"O|X3", "ok 3/3 9 9")
	checkSession(t, common+"O1|X3|O10|X3|O01|X3", "ok 3/3 9 9; ok 2/2 9 9; ok 3/3 9 9")
	checkSession(t, common+"O10|O|X3", "ok 3/3 9 9")
	checkSession(t, common+"O01234|X3|O43210|X3", "ok 3/3 9 9; ok 2/2 9 9")
	for _, wrong := range []string{"5", "6", "7", "8", "9"} {
		checkSession(t, common+"O"+wrong+"|X3|O012"+wrong+"5|X3|O|X3", "pass; pass @3; ok 3/3 9 9")
	}
	zeros := strings.Repeat("0", impl.MaxPasses)
	checkSession(t, common+"O"+zeros+"|X3", "ok 3/3 9 9")
	checkSession(t, common+"O"+zeros+"0|X3", "pass @50")
	checkSession(t, common+"O"+zeros[1:]+"9|X3", "pass @49")
	checkSession(t, common+"O9"+zeros+"|X3", "pass @50")
	checkSession(t, common+"O"+strings.Repeat("12345", 20000)+"|X3|O|X3", "pass @50; ok 3/3 9 9")
	checkNotAsSaid(t, "O-", "O-1", "O+1", "O 1", "O1 ", "O ", "O1 0", "O1,0", "Oa", "O1a", "O0x1", "O1.0", "O1;", "O\t", "O1\r", "O\x00", "O\xff", "O\u0661", "O\u00b2", "O/", "O:", "O1/", "O:1")
	for c := range 256 {
		digit := string([]byte{byte(c)})
		if c == '\n' {
			continue
		}
		if c < '0' || c > '9' {
			checkNotAsSaid(t, "O"+digit, "O0"+digit, "O"+digit+"0")
			continue
		}
		replied(t, "Pout 1;\nX\nO"+digit+"\nX\nO0"+digit+"\nX")
	}
}

// P17: the budget is the number after a B, of one to six digits.
func TestRunSessionOfBudgets(t *testing.T) {
	source := "Pin x:2;out sum(x*x);|"
	checkSession(t, source+"X3 4", "ok 3/4 25")
	for _, small := range []string{"0", "1", "2", "3", "000000", "000003", "00", "03"} {
		checkSession(t, source+"B"+small+"|X3 4|X", "budget; budget")
	}
	for _, great := range []string{"4", "04", "000004", "5", "10", "400", "50000", "50001", "65536", "100000", "999999", "099999"} {
		checkSession(t, source+"B"+great+"|X3 4|X", "ok 3/4 25; hit shape 0/4")
	}
	checkSession(t, source+"B3|X3 4|B4|X3 4", "budget; ok 3/4 25")
	checkSession(t, "B0|X|B000000|X", "ok; hit ok")
	// at first it is MaxCells, no more and no less
	checkSession(t, "Pout 1;|X|B50000|X|B50001|X|B49999|X", "ok 1/1 1; hit ok 1/1 1; ok 1/1 1; ok 1/1 1")
	// all digits count, in their order
	for _, n := range []int{123, 321, 132, 105, 510, 1234} {
		text := "Pout fill(1, 1000);|"
		if n < impl.MaxLen {
			text = "Pout fill(1, " + strconv.Itoa(n) + ");|"
		}
		g, _, _ := impl.ParseSource([]byte(text[1 : len(text)-1]))
		peak := elementsIn(g)
		replies := replied(t, strings.ReplaceAll(text+"B"+strconv.Itoa(peak-1)+"|X|B"+strconv.Itoa(peak)+"|X", "|", "\n"))
		if replies[0].Result.Code != impl.CodeBudget || replies[1].Result.Code != impl.CodeOK {
			t.Errorf("%d: %s", n, toldReplies(replies))
		}
	}
	checkNotAsSaid(t, "B", "B ", "B-1", "B+1", "B 1", "B1 ", "B1 0", "Ba", "B1a", "B0x1", "B1.0", "B1,000", "B1_0", "B1e3", "B1234567", "B0000000", "B0000001", "B00000000000000000001",
		"B9999999", "B18446744073709551617", "B\t", "B1\r", "B\x00", "B\xff", "B\u0661", "B1/", "B:1")
	for c := range 256 {
		digit := string([]byte{byte(c)})
		if c != '\n' && (c < '0' || c > '9') {
			checkNotAsSaid(t, "B"+digit, "B9"+digit, "B"+digit+"9", "B1234"+digit+"5")
		}
	}
}

// P17: commands with another first byte.
func TestRunSessionOfOtherCommands(t *testing.T) {
	checkNotAsSaid(t, "", " ", "p", "o", "b", "x", "pout 1;", "o1", "b1", "x1", " P", " O", " B1", " X", "\tX", "Q", "0", "1", "-", ";", "#", "XX", "BX", "OX", "X O", "\x00", "\xff", "\u0058\u0301", "\ufeffX")
	for c := range 256 {
		first := string([]byte{byte(c)})
		if !strings.Contains("POBX\n", first) {
			checkNotAsSaid(t, first, first+"1", first+" 1 2", first+"X")
		}
	}
}

// echo answers a source whose outputs are its inputs, of these lengths.
func echo(inputs [][]float64) string {
	text := ""
	for i, input := range inputs {
		name := "x" + strconv.Itoa(i)
		text += "in " + name + ":" + strconv.Itoa(len(input)) + ";out " + name + ";"
	}
	return text
}

// checkInputs takes what stands after an X, and the inputs that it means.
func checkInputs(t *testing.T, after string, want ...[]float64) {
	t.Helper()
	got := replied(t, "P"+echo(want)+"\nX"+after+"\nX"+after)
	for i, r := range got {
		if r.Result.Code != impl.CodeOK || r.Hit != (i == 1) || !sameLists(r.Result.Outs, want) {
			t.Errorf("%q: %s, want %v", after, toldReply(r), want)
		}
	}
}

// P17: inputs that are as said.
func TestRunSessionOfInputs(t *testing.T) {
	for _, none := range []string{"", " ", "  ", strings.Repeat(" ", 5000)} {
		checkInputs(t, none)
	}
	one := []float64{1}
	checkInputs(t, "1", one)
	checkInputs(t, " 1", one)
	checkInputs(t, "1 ", one)
	checkInputs(t, "    1    ", one)
	checkInputs(t, "1 2", []float64{1, 2})
	checkInputs(t, "1   2", []float64{1, 2})
	checkInputs(t, "  1 2     3  ", []float64{1, 2, 3})
	checkInputs(t, "1;2", one, []float64{2})
	checkInputs(t, "1 ;2", one, []float64{2})
	checkInputs(t, "1; 2", one, []float64{2})
	checkInputs(t, "  1  ;  2  ", one, []float64{2})
	checkInputs(t, "1 2;3;4 5 6", []float64{1, 2}, []float64{3}, []float64{4, 5, 6})
	checkInputs(t, "-1", []float64{-1})
	checkInputs(t, "-1 -2;-3", []float64{-1, -2}, []float64{-3})
	checkInputs(t, "0 -0 0.0 -0.00 00", []float64{0, minusZero(), 0, minusZero(), 0})
	checkInputs(t, "0.1 -0.1 2.50 007 1234567.25", []float64{0.1, -0.1, 2.5, 7, 1234567.25})
	checkInputs(t, "123456789012345 -123456789012345 0.12345678901234 1234567.12345678", []float64{123456789012345, -123456789012345, 0.12345678901234, 1234567.12345678})
	checkInputs(t, "000000000000000 -000000000000001", []float64{0, -1})
	checkInputs(t, "9007199254740.99", []float64{9007199254740.99})
	long := make([]float64, impl.MaxLen)
	for i := range long {
		long[i] = float64(i % 7)
	}
	words := strings.Repeat("0 1 2 3 4 5 6 ", 143)
	checkInputs(t, words[:2*impl.MaxLen], long)
	checkInputs(t, strings.Repeat("5;", impl.MaxIns-1)+"5", slicesOf(5, impl.MaxIns)...)
	// more than any source takes are still as said
	checkSession(t, "Pin x:1;out x;|X"+strings.Repeat("1;", 99)+"1|X"+words, "shape 0/1; hit shape 0/1")
}

func slicesOf(f float64, n int) [][]float64 {
	out := [][]float64{}
	for range n {
		out = append(out, []float64{f})
	}
	return out
}

// P17: inputs that are not as said.
func TestRunSessionOfWrongInputs(t *testing.T) {
	checkNotAsSaid(t, "X;", "X ;", "X; ", "X ; ", "X;;", "X ; ;", "X1;", "X1; ", "X1 ;", "X;1", "X ;1", "X1;;2", "X1; ;2", "X1 2;;3", "X1;2;", "X;1;2", "X1 ;; 2", "X;;;")
	checkNotAsSaid(t, "X-", "X -", "X- ", "X- 1", "X1 -", "X1 - 2", "X--1", "X- -1", "X1 --2", "X---", "X1-2", "X1-", "X-;1", "X1;-", "X-1-")
	checkNotAsSaid(t, "X.", "X1.", "X.5", "X-.5", "X1..5", "X1.5.", "X1.2.3", "X1 .5", "X1. 5", "X1 .", "X-1.", "X1e3", "X1E3", "X0x1", "X1_000", "Xinf", "XNaN", "XInf", "X+1", "X1 +2", "X1,2", "X1,", "Xa", "X1a", "Xa1")
	checkNotAsSaid(t, "X1234567890123456", "X-1234567890123456", "X0000000000000001", "X1.234567890123456", "X1 2 0.1234567890123456", "X1;1234567890123456", "X1234567890123456;1")
	checkNotAsSaid(t, "X\t", "X\t1", "X1\t", "X1\t2", "X1\r", "X\r", "X1\v2", "X1\f2", "X1\u00a02", "X\u00a0", "X1\u30002", "X\x00", "X1\x002", "X1 2\x00", "X\xff", "X1\xff", "X\u0661", "X1:2", "X1/2", "X1,2;3", "X(1)", "X#", "X1 # 2", "X\u22121")
	for c := range 256 {
		stray := string([]byte{byte(c)})
		if !strings.Contains("0123456789 \n", stray) {
			checkNotAsSaid(t, "X1"+stray)
		}
		if !strings.Contains("0123456789 ;\n", stray) {
			checkNotAsSaid(t, "X1 "+stray+" 2")
		}
		if !strings.Contains("0123456789 -\n", stray) {
			checkNotAsSaid(t, "X"+stray+"1", "X"+stray)
		}
		if c != '\n' {
			replied(t, "Pin x:1;out x;\nX1"+stray+"2\nX"+stray+"1 2\nX1 2"+stray+"\nX1 "+stray+"2\nX1"+stray+" 2")
		}
	}
}

// P17: a command that is not as said changes nothing: neither what is held nor what is in the cache.
func TestRunSessionGoesOnAfterWrongCommands(t *testing.T) {
	checkSession(t, "Pout 1;|X;|X", "syntax; ok 1/1 1")
	checkSession(t, "Pout 1;|X|X;|X", "ok 1/1 1; syntax; hit ok 1/1 1")
	checkSession(t, "Pout 1;|O1|O1x|B1|B1x|X|B2|X", "syntax; syntax; ok 1/1 1; ok 1/1 1")
	checkSession(t, "Pout 1;|O9|Ox|X|O|X", "syntax; pass; ok 1/1 1")
	checkSession(t, "Pout 1;|B0|B1234567|X|B1|X", "syntax; budget; ok 1/1 1")
	checkSession(t, "Pout 1;|B1|B0000000|X|B|X", "syntax; ok 1/1 1; syntax; hit ok 1/1 1")
	checkSession(t, "Pout 1;|pout 2;|X| Pout 2;|X", "syntax; ok 1/1 1; syntax; hit ok 1/1 1")
}

// P17: floats of all kinds come through a session as Solve hands them out.
func TestRunSessionOfEdgeFloats(t *testing.T) {
	text := "Pin x:3;out x;out -x;out 1/x;out 0*x/x;out exp(x*1000);out max(x,-x);\nX0 -0 1\nX123456789012345 -0.00000000000001 -1\nO42310\nX0 -0 1"
	got := replied(t, text)
	want := [][]float64{{0, minusZero(), 1}, {minusZero(), 0, -1}, {math.Inf(1), math.Inf(-1), 1}, {math.NaN(), math.NaN(), 0}, {1, 1, impl.ExpFloat(1000)}, {minusZero(), 0, 1}}
	for _, i := range []int{0, 2} {
		if !sameLists(got[i].Result.Outs, want) {
			t.Errorf("%s", toldReply(got[i]))
		}
	}
}
