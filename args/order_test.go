package args_test

// Where an expression reads a variable beside a call that changes it, the language leaves open which comes first: an answer that hangs on it is one that no test that runs can tell from another, with a compiler that does as is wished. So the text is looked at.

import (
	"go/ast"
	"go/parser"
	"go/token"
	"go/types"
	"path/filepath"
	"strings"
	"testing"
)

// calls tells whether an expression calls anything but what the language has itself.
func calls(e ast.Expr) bool {
	found := false
	ast.Inspect(e, func(n ast.Node) bool {
		if c, ok := n.(*ast.CallExpr); ok {
			name, plain := ast.Unparen(c.Fun).(*ast.Ident)
			found = found || !plain || types.Universe.Lookup(name.Name) == nil
		}
		return !found
	})
	return found
}

// 13.2: the list of parameters grows while names are gone through: nothing is indexed by what a call in the same expression answers.
func TestNoCallWithinAnIndex(t *testing.T) {
	files, err := filepath.Glob("*.go")
	if err != nil || len(files) == 0 {
		t.Fatal(files, err)
	}
	for _, name := range files {
		if strings.HasSuffix(name, "_test.go") {
			continue
		}
		set := token.NewFileSet()
		file, err := parser.ParseFile(set, name, nil, 0)
		if err != nil {
			t.Fatal(err)
		}
		ast.Inspect(file, func(n ast.Node) bool {
			if x, ok := n.(*ast.IndexExpr); ok && calls(x.Index) {
				t.Errorf("%v: what is indexed may be read ahead of the call, or behind it", set.Position(x.Pos()))
			}
			return true
		})
	}
}
