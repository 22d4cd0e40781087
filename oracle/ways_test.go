package oracle_test

import (
	"go/ast"
	"go/parser"
	"go/token"
	"path/filepath"
	"strings"
	"testing"
)

// readCode is the package as its files have it, without tests.
func readCode(t *testing.T) []*ast.File {
	t.Helper()
	names, err := filepath.Glob("*.go")
	if err != nil {
		t.Fatal(err)
	}
	var files []*ast.File
	for _, name := range names {
		if strings.HasSuffix(name, "_test.go") {
			continue
		}
		f, err := parser.ParseFile(token.NewFileSet(), name, nil, 0)
		if err != nil {
			t.Fatal(err)
		}
		files = append(files, f)
	}
	return files
}

// isStruct reports whether an expression is a literal of a struct, which has a type with a name.
func isStruct(e ast.Expr) bool {
	x, ok := ast.Unparen(e).(*ast.CompositeLit)
	if !ok {
		return false
	}
	_, ok = x.Type.(*ast.SelectorExpr)
	return ok
}

// Ways: the package has a variadic function, a closure, and a struct that is compared.
func TestWays(t *testing.T) {
	seen := map[string]bool{}
	for _, f := range readCode(t) {
		ast.Inspect(f, func(n ast.Node) bool {
			switch x := n.(type) {
			case *ast.Ellipsis:
				seen["variadic"] = true
			case *ast.FuncLit:
				seen["closure"] = true
			case *ast.BinaryExpr:
				seen["struct-compared"] = seen["struct-compared"] || x.Op == token.EQL && isStruct(x.Y)
			}
			return true
		})
	}
	for _, way := range []string{"variadic", "closure", "struct-compared"} {
		if !seen[way] {
			t.Error("not used:", way)
		}
	}
}
