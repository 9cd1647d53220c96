package tests

import (
	"strings"
	"testing"

	"loop.example/s08086/impl"
)

// checkSyntax holds ParseSource against the grammar: CodeSyntax exactly if the text is outside it, then long numbers.
func checkSyntax(t *testing.T, g *grammar, text string) int {
	t.Helper()
	got, code, at := impl.ParseSource([]byte(text))
	if code != impl.CodeOK && !sameGraph(got, impl.Graph{}) {
		t.Errorf("%.200q: code %d with %d values", text, code, len(got.Vals))
	}
	if outside := wantSyntax(g, text); outside >= 0 {
		if code != impl.CodeSyntax || at != outside {
			t.Errorf("%.200q: code %d at %d, want CodeSyntax at %d", text, code, at, outside)
		}
		return code
	}
	if long := wantLongNumber(text); long >= 0 && (code != impl.CodeLimit || at != long) {
		t.Errorf("%.200q: code %d at %d, want CodeLimit at %d", text, code, at, long)
	}
	if code == impl.CodeSyntax {
		t.Errorf("%.200q: CodeSyntax at %d inside the grammar", text, at)
	}
	return code
}

// smallSources have every rule of the grammar, each in few tokens.
func smallSources() []string {
	return []string{
		"", "in x : 3 ;", "let y = 1.5 ;", "let z = 2 ;", "repeat 3 y = y ;", "def f ( ) = 1 ;", "def f ( p ) = p ;", "def f ( p , q ) = p ;",
		"def f ( p , q , r ) = q ;", "out 1 ;", "out x ;", "out f ( ) ;", "out f ( 1 ) ;", "out f ( x , 2 , y ) ;", "out ( x ) ;",
		"out ( ( 1 ) ) ;", "out exp ( x ) ;", "out sum ( x ) ;", "out max ( x , 1 ) ;", "out dot ( 1 , x ) ;", "out sel ( x , 1 , y ) ;",
		"out fill ( 1 , 3 ) ;", "out pick ( x , 0 ) ;", "out put ( 1 , 0 , 3 ) ;", "out grad ( x , x ) ;", "out jvp ( x , x , 1 ) ;",
		"out 1 + 2 - 3 ;", "out 1 * 2 / 3 ;", "out - 1 ;", "out - - 1 ;", "out 1 - - 2 ;", "out 1 * - x + 2 ;", "in x : 1 ; out x ;",
		"let a = f ( g ( 1 ) , h ( ) ) ;",
	}
}

// everyToken is one of each kind, and bytes that begin none.
func everyToken() []string {
	out := strings.Split("+ - * / ( ) , ; : =", " ")
	out = append(out, keyWords()...)
	return append(out, "x", "f", "ins", "_", "e1", "1", "0", "007", "1.5", "0.0", "1234567890123456", "1.234567890123456", ".", "@", "X", "\x00", "\xc3")
}

// P7: every token in the place of every other, ahead of it, and with it left out.
func TestSourceWithOtherTokens(t *testing.T) {
	g := newGrammar(grammarText)
	codes := map[int]int{}
	for _, text := range smallSources() {
		codes[checkSyntax(t, g, text)]++
		words := strings.Fields(text)
		for i := range len(words) + 1 {
			before, behind := strings.Join(words[:i], " "), strings.Join(words[i:], " ")
			codes[checkSyntax(t, g, before)]++
			for _, other := range everyToken() {
				codes[checkSyntax(t, g, before+" "+other)]++
				codes[checkSyntax(t, g, before+" "+other+" "+behind)]++
				if i < len(words) {
					rest := strings.Join(words[i+1:], " ")
					codes[checkSyntax(t, g, before+" "+other+" "+rest)]++
					codes[checkSyntax(t, g, before+" "+rest)]++
				}
			}
		}
	}
	for _, c := range []int{impl.CodeOK, impl.CodeSyntax, impl.CodeName, impl.CodeLimit} {
		if codes[c] < 20 {
			t.Errorf("code %d was answered %d times: not much of a test", c, codes[c])
		}
	}
}

// longSource has all of the language in it.
const longSource = `# all statements
in x:3;in	y_1 : 1 ; # two inputs
let a=fill(y_1,3)*x-2.50/(x+1);
def f(p,q)=max(p,-q)*sel(p,q,0.5);def g()=exp(-x);
repeat 2a=f(a,g())-put(pick(x,2),1,3);
out grad(dot(a,x),x);out jvp(sum(a*a),x,1);
out--f(1,(2));
#`

// P7: a text that is cut at every byte, and one of which every byte is left out.
func TestSourceCutAnywhere(t *testing.T) {
	g := newGrammar(grammarText)
	if code := checkSyntax(t, g, longSource); code != impl.CodeOK {
		t.Fatalf("the long source: code %d", code)
	}
	for i := range len(longSource) {
		checkSyntax(t, g, longSource[:i])
		checkSyntax(t, g, longSource[i:])
		checkSyntax(t, g, longSource[:i]+longSource[i+1:])
		checkSyntax(t, g, longSource[:i]+" "+longSource[i:])
	}
}

// P7: every byte, at every kind of place in a text.
func TestSourceWithEveryByte(t *testing.T) {
	g := newGrammar(grammarText)
	for b := range 256 {
		c := string([]byte{byte(b)})
		for _, text := range []string{
			c, c + "out 1;", "out" + c + "1;", "out " + c + "1;", "out 1" + c + ";", "out 1" + c + "2;", "out 1." + c, "out x" + c + ";", "out 1;" + c,
			"out 1;#" + c, "out 1;#" + c + "out", "#" + c + "\nout 1;", "out 1 2" + c + ";", "out 1 " + c + "2;", "in x" + c + "1;", "let x" + c + "=1;",
			"out (" + c + "1);", "out f" + c + "(1);", "out ;" + c, "out ; " + c, c + c, "out 1.5" + c + ";", "out 1" + c + "5;",
		} {
			checkSyntax(t, g, text)
		}
	}
}

// P7: a byte that begins no token, ahead of, at and behind the first token with which no source can go on.
func TestSourceWithStrayBytes(t *testing.T) {
	checkFaults(t, impl.CodeSyntax,
		"|@ out ) ;", "out |@ ) ;", "out |) @ ;", "out 1 |@ 2 ;", "out 1 |2 @ ;", "out 1 |2@ ;", "out 1; |; @", "out 1; |@ ;",
		"|X", "|xX", "out x|X ;", "out x |Y ;", "out 1|.", "out 1|. ;", "out |.5 ;", "out 1 |.5 ;", "out 1|. 5 ;", "out 1|..5 ;", "out 1.5|.5 ;", "out 1.5|. ;",
		"out 1 + |.", "out 1|e3 ;", "out 0|x1 ;", "|é", "out 1 ; |\x00", "out 1 ; |\v", "out 1 ; |\f", "out 1 ; |\u00a0", "out 1 |\"", "out 1 |'a' ;",
		"in x : |1.0 ;", "in x : |.1 ;", "in x : 1|.;", "# c\n|@", "# @\n|)", "out 1 # @\n|)", "out 1 # @|")
}

// P7: what is not complete is told at the length of the text, behind all blanks and comments.
func TestSourceNotComplete(t *testing.T) {
	checkFaults(t, impl.CodeSyntax,
		"out|", "out |", "out 1|", "out 1 |", "out 1\n\n|", "out 1 # ;|", "out 1 # ;\n|", "in|", "in x|", "in x :|", "in x : 1|", "let|", "let x|", "let x =|", "let x = 1|",
		"repeat|", "repeat 1|", "repeat 1 x|", "repeat 1 x =|", "repeat 1 x = x|", "def|", "def f|", "def f(|", "def f(p|", "def f(p,|", "def f(p)|", "def f(p)=|", "def f() = 1|",
		"out f(|", "out f(1|", "out f(1,|", "out f(1)|", "out (|", "out -|", "out 1 *|", "out jvp(x, y|", "out put(1, 2|", "out put(1, 2, 3|", "out 1; out|")
	checkFaults(t, impl.CodeSyntax, "out 1; |o", "out 1; |ou", "|o")
}

// P7: nothing at all is a source, and so are blanks and comments.
func TestSourceOfNothing(t *testing.T) {
	for _, text := range []string{"", " ", "\n", "\t\r\n ", "#", "# a comment", "#\n", "# one\n# two", "##", "  # \xff\x00 @ out ( \n\t", "#" + strings.Repeat(" ", 3999)} {
		got, code, at := impl.ParseSource([]byte(text))
		if code != impl.CodeOK || at != 0 || !sameGraph(got, impl.Graph{}) {
			t.Errorf("%.50q: code %d at %d, %s", text, code, at, told(got))
		}
	}
	if got, code, at := impl.ParseSource(nil); code != impl.CodeOK || at != 0 || !sameGraph(got, impl.Graph{}) {
		t.Errorf("nil: code %d at %d", code, at)
	}
}

// P7: a key word is no name, wherever a name is asked for.
func TestKeyWordsAreNoNames(t *testing.T) {
	g := newGrammar(grammarText)
	for _, word := range keyWords() {
		for _, form := range []string{"in ? : 1 ;", "let ? = 1 ;", "repeat 1 ? = 1 ;", "def ? ( ) = 1 ;", "def f ( ? ) = 1 ;", "def f ( p , ? ) = 1 ;",
			"out grad ( 1 , ? ) ;", "out jvp ( 1 , ? , 1 ) ;", "out ? ;", "out ? ( 1 ) ;", "out ? ( ) ;", "? ;"} {
			text := strings.ReplaceAll(form, "?", word)
			checkSyntax(t, g, text)
			if at := strings.Index(form, "?"); !strings.HasPrefix(form, "out ?") && form != "? ;" {
				checkCode(t, text, impl.CodeSyntax, at)
			}
			for _, longer := range []string{word + "_", word + "1", "_" + word, word + word, word[:1]} {
				checkSyntax(t, g, strings.ReplaceAll(form, "?", longer))
			}
		}
	}
}

// P7: a number with a point is no int, wherever an int is asked for.
func TestPointsAreNoInts(t *testing.T) {
	checkFaults(t, impl.CodeSyntax, "in x : |1.0 ;", "in x : |1.00000000000000000 ;", "repeat |2.0 x = 1 ;", "out fill(1, |2.5) ;", "out pick(1, |0.0) ;", "out put(1, |0.0, 2) ;",
		"out put(1, 0, |2.0) ;", "out grad(1, |1) ;", "out jvp(1, |1, 1) ;", "in x : |- 1 ;", "in x : |y ;", "out fill(1, |(2)) ;", "out pick(1, |-1) ;", "repeat |x x = 1 ;",
		"in |1 : 1 ;", "let |1 = 1 ;", "def |1 ( ) = 1 ;", "def f ( |1 ) = 1 ;", "repeat 1 |1 = 1 ;")
}

// P7: more than MaxSource bytes are told ahead of everything else.
func TestSourceAtMaxSource(t *testing.T) {
	exactly := func(text string, n int) string { return text + strings.Repeat("#", n-len(text)) }
	for _, text := range []string{"", "out 1;", "in x : 2 ; out x ;"} {
		checkCode(t, exactly(text, impl.MaxSource-1), impl.CodeOK, 0)
		checkCode(t, exactly(text, impl.MaxSource), impl.CodeOK, 0)
		for _, n := range []int{impl.MaxSource + 1, impl.MaxSource + 2, 100000} {
			checkCode(t, exactly(text, n), impl.CodeLimit, 0)
		}
	}
	checkCode(t, exactly("@", impl.MaxSource), impl.CodeSyntax, 0)
	checkCode(t, exactly(" @", impl.MaxSource+1), impl.CodeLimit, 0)
	checkCode(t, exactly(" out w ;", impl.MaxSource), impl.CodeName, 5)
	checkCode(t, exactly(" out w ;", impl.MaxSource+1), impl.CodeLimit, 0)
	checkCode(t, exactly(" out 1 ", impl.MaxSource), impl.CodeSyntax, impl.MaxSource)
	checkCode(t, exactly(" out 1 ", impl.MaxSource+1), impl.CodeLimit, 0)
	checkCode(t, strings.Repeat(" ", impl.MaxSource-1)+"@", impl.CodeSyntax, impl.MaxSource-1)
	checkCode(t, strings.Repeat(" ", impl.MaxSource-6)+"out 1;", impl.CodeOK, 0)
	checkCode(t, strings.Repeat(" ", impl.MaxSource-5)+"out 1;", impl.CodeLimit, 0)
}

// P7: a long number is told behind everything that is outside the grammar, and ahead of every other fault.
func TestSourceWithLongNumbers(t *testing.T) {
	const most, long, longPoint = "123456789012345", "1234567890123456", "123456789012345.6"
	checkFaults(t, impl.CodeLimit, "out |"+long+" ;", "out |"+longPoint+" ;", "out |0.000000000000000 ;", "out |0000000000000000 ;", "in x : |0000000000000001 ;",
		"out w ; out |"+long+" ;", "out "+most+" + |"+long+" + "+longPoint+" ;", "out |"+longPoint+" + "+long+" ;", "let x = 1 ; repeat |0000000000000000 x = 2 ;",
		"out fill(w, |"+long+") ;", "out pick(1, |"+long+") ;", "out put(1, |"+long+", "+long+") ;", "out put(1, 5, |"+long+") ;", "def f() = |"+long+" ;",
		"let x = 1 ; let x = 2 ; out |"+long+" ;", "let x = 1 ; repeat 0 x = |"+long+" ;", "repeat |"+long+" x = 1 ;", "in x : 0 ; in y : |"+long+" ;")
	checkFaults(t, impl.CodeSyntax, "out "+long+" |) ;", "out "+long+" |", "out "+long+" ; |@", "out "+long+"|. ;", "in x : |"+longPoint+" ;")
	for _, text := range []string{"out " + most + " ;", "out 12345678901234.5 ;", "out 0.00000000000001 ;", "# " + long + "\nout 1 ;", "let x" + long + " = 1 ;", "in x : 000000000000001 ;"} {
		checkCode(t, text, impl.CodeOK, 0)
	}
}
