package tests

import (
	"bytes"
	"go/ast"
	"go/format"
	"go/parser"
	"go/token"
	"os"
	"path/filepath"
	"slices"
	"strings"
	"testing"
)

// The library's packages that the program may import.
func allowedImports() []string {
	return []string{"bytes", "cmp", "container/heap", "errors", "iter", "maps", "math", "math/big", "math/bits", "slices", "sort", "strconv",
		"strings", "sync", "sync/atomic", "unicode", "unicode/utf8"}
}

// The program keeps to the layout, the imports and the size of functions that its language asks for.
func TestProgramKeepsToItsLanguage(t *testing.T) {
	files, err := filepath.Glob("../impl/*")
	if err != nil || len(files) == 0 {
		t.Fatalf("no files of the program: %v", err)
	}
	for _, name := range files {
		if !strings.HasSuffix(name, ".go") {
			t.Errorf("%s is no Go file", name)
			continue
		}
		text, err := os.ReadFile(name)
		if err != nil {
			t.Fatal(err)
		}
		if laid, err := format.Source(text); err != nil || !bytes.Equal(laid, text) {
			t.Errorf("%s: not in gofmt's layout: %v", name, err)
		}
		if bytes.Contains(text, []byte("//go:")) {
			t.Errorf("%s has a //go: line", name)
		}
		checkFile(t, name, text)
	}
}

func checkFile(t *testing.T, name string, text []byte) {
	t.Helper()
	places := token.NewFileSet()
	file, err := parser.ParseFile(places, name, text, parser.SkipObjectResolution)
	if err != nil {
		t.Fatal(err)
	}
	for _, i := range file.Imports {
		if path := strings.Trim(i.Path.Value, `"`); !slices.Contains(allowedImports(), path) {
			t.Errorf("%s imports %s", name, path)
		}
	}
	for _, d := range file.Decls {
		f, ok := d.(*ast.FuncDecl)
		if !ok {
			continue
		}
		if lines := places.Position(f.End()).Line - places.Position(f.Pos()).Line + 1; lines > 60 {
			t.Errorf("%s: %s has %d lines", name, f.Name.Name, lines)
		}
	}
}
