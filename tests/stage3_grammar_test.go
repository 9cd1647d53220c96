package tests

import (
	"regexp"
	"slices"
	"strings"

	"loop.example/s08086/impl"
)

// grammarText is the grammar of 3.2 as it stands in the document.
const grammarText = `
    source  = { stmt }
    stmt    = "in" name ":" int ";"
            | "let" name "=" expr ";"
            | "repeat" int name "=" expr ";"
            | "def" name "(" [ name { "," name } ] ")" "=" expr ";"
            | "out" expr ";"
    expr    = term { ( "+" | "-" ) term }
    term    = unary { ( "*" | "/" ) unary }
    unary   = "-" unary | primary
    primary = number | name | name "(" [ expr { "," expr } ] ")" | "(" expr ")"
            | "exp" "(" expr ")" | "sum" "(" expr ")"
            | "max" "(" expr "," expr ")" | "dot" "(" expr "," expr ")"
            | "sel" "(" expr "," expr "," expr ")"
            | "fill" "(" expr "," int ")" | "pick" "(" expr "," int ")"
            | "put" "(" expr "," int "," int ")"
            | "grad" "(" expr "," name ")" | "jvp" "(" expr "," name "," expr ")"
`

// keyWords are those of 3.2.
func keyWords() []string {
	return strings.Fields("in let out def repeat exp sum max dot sel fill pick put grad jvp")
}

// grammar holds, for each name of a rule, its ways; a way is a list of words, each the name of a rule or a terminal.
type grammar struct {
	ways  map[string][][]string
	words []string
	made  int
}

func newGrammar(text string) *grammar {
	g := &grammar{ways: map[string][][]string{}}
	rules := regexp.MustCompile(`(?m)^ *(\w+) *=`).FindAllStringSubmatchIndex(text, -1)
	for i, r := range rules {
		end := len(text)
		if i+1 < len(rules) {
			end = rules[i+1][0]
		}
		g.words = strings.Fields(text[r[1]:end])
		g.ways[text[r[2]:r[3]]] = g.choices()
	}
	return g
}

// choices reads ways with | between them, up to a closing bracket or the end.
func (g *grammar) choices() [][]string {
	out := [][]string{{}}
	for len(g.words) > 0 && !slices.Contains([]string{")", "]", "}"}, g.words[0]) {
		word := g.words[0]
		g.words = g.words[1:]
		last := len(out) - 1
		switch word {
		case "|":
			out = append(out, []string{})
		case "(", "[", "{":
			out[last] = append(out[last], g.bracket(word))
		default:
			out[last] = append(out[last], word)
		}
	}
	return out
}

// bracket makes a rule of its own for what stands in a bracket.
func (g *grammar) bracket(open string) string {
	g.made++
	name := "bracket" + strings.Repeat("'", g.made)
	inside := g.choices()
	g.words = g.words[1:]
	switch open {
	case "[":
		inside = append(inside, nil)
	case "{":
		for i := range inside {
			inside[i] = append(inside[i], name)
		}
		inside = append(inside, nil)
	}
	g.ways[name] = inside
	return name
}

// item is a way of a rule that was begun ahead of the token from, and has come as far as done.
type item struct {
	rule string
	way  int
	done int
	from int
}

// chart holds, for each number of tokens, the items that these tokens allow (by Earley's method).
type chart struct {
	g    *grammar
	sets [][]item
}

func newChart(g *grammar) *chart {
	c := &chart{g: g}
	start := []item{}
	for way := range g.ways["source"] {
		start = append(start, item{"source", way, 0, 0})
	}
	c.sets = append(c.sets, nil)
	c.close(start)
	return c
}

// next answers the word that an item asks for, or "".
func (c *chart) next(i item) string {
	if way := c.g.ways[i.rule][i.way]; i.done < len(way) {
		return way[i.done]
	}
	return ""
}

// close makes the last set of these items and all that follow from them.
func (c *chart) close(set []item) {
	last := len(c.sets) - 1
	seen := map[item]bool{}
	add := func(i item) {
		if !seen[i] {
			seen[i] = true
			c.sets[last] = append(c.sets[last], i)
		}
	}
	for _, i := range set {
		add(i)
	}
	for at := 0; at < len(c.sets[last]); at++ {
		i := c.sets[last][at]
		word := c.next(i)
		if word == "" {
			for k := 0; k < len(c.sets[i.from]); k++ {
				if j := c.sets[i.from][k]; c.next(j) == i.rule {
					add(item{j.rule, j.way, j.done + 1, j.from})
				}
			}
			continue
		}
		for way, words := range c.g.ways[word] {
			add(item{word, way, 0, last})
			if len(words) == 0 {
				add(item{i.rule, i.way, i.done + 1, i.from})
			}
		}
	}
}

// goOn takes one more token, and answers whether a source can go on with it.
func (c *chart) goOn(token string) bool {
	found := []item{}
	for _, i := range c.sets[len(c.sets)-1] {
		if matches(c.next(i), token) {
			found = append(found, item{i.rule, i.way, i.done + 1, i.from})
		}
	}
	if len(found) == 0 {
		return false
	}
	c.sets = append(c.sets, nil)
	c.close(found)
	return true
}

func (c *chart) isComplete() bool {
	return slices.ContainsFunc(c.sets[len(c.sets)-1], func(i item) bool {
		return i.rule == "source" && i.from == 0 && c.next(i) == ""
	})
}

func matches(terminal, token string) bool {
	digit := token[0] >= '0' && token[0] <= '9'
	letter := token[0] >= 'a' && token[0] <= 'z' || token[0] == '_'
	switch terminal {
	case "number":
		return digit
	case "int":
		return digit && !strings.Contains(token, ".")
	case "name":
		return letter && !slices.Contains(keyWords(), token)
	}
	return terminal == `"`+token+`"`
}

// spotted is a token and its offset.
type spotted struct {
	text string
	at   int
}

var (
	gapText   = regexp.MustCompile(`\A(?:[ \t\r\n]|#[^\n]*)+`)
	tokenText = regexp.MustCompile(`\A(?:[a-z_][a-z0-9_]*|[0-9]+(?:\.[0-9]+)?|[-+*/(),;:=])`)
)

// wantTokens answers the tokens of a text, and the first offset at which something begins none, or the text's length.
func wantTokens(text string) ([]spotted, int) {
	out := []spotted{}
	at := 0
	for {
		at += len(gapText.FindString(text[at:]))
		found := tokenText.FindString(text[at:])
		if found == "" {
			return out, at
		}
		out = append(out, spotted{found, at})
		at += len(found)
	}
}

// wantSyntax answers the offset at which a text leaves the grammar, or -1.
func wantSyntax(g *grammar, text string) int {
	tokens, end := wantTokens(text)
	c := newChart(g)
	for _, k := range tokens {
		if !c.goOn(k.text) {
			return k.at
		}
	}
	if end < len(text) || !c.isComplete() {
		return end
	}
	return -1
}

// wantLongNumber answers the offset of the first number with more than MaxDigits digits, or -1.
func wantLongNumber(text string) int {
	tokens, _ := wantTokens(text)
	for _, k := range tokens {
		if matches("number", k.text) && len(strings.ReplaceAll(k.text, ".", "")) > impl.MaxDigits {
			return k.at
		}
	}
	return -1
}
