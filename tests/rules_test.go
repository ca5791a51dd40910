package tests

import (
	"bytes"
	"go/ast"
	"go/format"
	"go/parser"
	"go/token"
	"os"
	"path/filepath"
	"strconv"
	"testing"
)

const longestFunction = 60

// allowedImports are those of ../shared/LANGUAGE.md.
var allowedImports = map[string]bool{
	"bytes": true, "cmp": true, "container/heap": true, "errors": true, "iter": true, "maps": true,
	"math": true, "math/bits": true, "slices": true, "sort": true, "strconv": true, "strings": true,
	"sync": true, "sync/atomic": true, "unicode": true, "unicode/utf8": true,
}

func TestRulesOfTheLanguage(t *testing.T) {
	names, err := filepath.Glob("../impl/*")
	if err != nil || len(names) == 0 {
		t.Fatalf("no files: %v", err)
	}
	for _, name := range names {
		source, err := os.ReadFile(name)
		if err != nil {
			t.Fatal(err)
		}
		if laid, err := format.Source(source); err != nil || !bytes.Equal(laid, source) {
			t.Errorf("%s has not gofmt's layout: %v", name, err)
		}
		set := token.NewFileSet()
		file, err := parser.ParseFile(set, name, source, parser.ParseComments)
		if err != nil {
			t.Fatal(err)
		}
		for _, x := range file.Imports {
			if path, _ := strconv.Unquote(x.Path.Value); !allowedImports[path] {
				t.Errorf("%s imports %s", name, path)
			}
		}
		for _, d := range file.Decls {
			if f, ok := d.(*ast.FuncDecl); ok {
				lines := set.Position(f.End()).Line - set.Position(f.Pos()).Line + 1
				if lines > longestFunction {
					t.Errorf("%s: %s has %d lines", name, f.Name.Name, lines)
				}
			}
		}
	}
}
