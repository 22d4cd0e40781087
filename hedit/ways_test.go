package hedit_test

import (
	"go/ast"
	"go/parser"
	"go/token"
	"path/filepath"
	"strings"
	"testing"
)

// readCode is the package as its files have it, without tests.
func readCode(t *testing.T) []*ast.File {
	t.Helper()
	names, err := filepath.Glob("*.go")
	if err != nil {
		t.Fatal(err)
	}
	var files []*ast.File
	for _, name := range names {
		if strings.HasSuffix(name, "_test.go") {
			continue
		}
		f, err := parser.ParseFile(token.NewFileSet(), name, nil, 0)
		if err != nil {
			t.Fatal(err)
		}
		files = append(files, f)
	}
	return files
}

// Ways: IDs are moved by closures, so each exchange of two elements of a slice is in one.
func TestWays(t *testing.T) {
	inside := 0
	for _, f := range readCode(t) {
		all, some := exchanges(f), 0
		ast.Inspect(f, func(n ast.Node) bool {
			if x, ok := n.(*ast.FuncLit); ok {
				some += exchanges(x)
				return false
			}
			return true
		})
		if some != all {
			t.Error("an exchange that is in no closure")
		}
		inside += some
	}
	if inside == 0 {
		t.Error("no exchange in a closure")
	}
}

// exchanges counts the assignments of two elements at once.
func exchanges(n ast.Node) int {
	count := 0
	ast.Inspect(n, func(n ast.Node) bool {
		if x, ok := n.(*ast.AssignStmt); ok && len(x.Lhs) == 2 && len(x.Rhs) == 2 {
			if _, ok := x.Lhs[0].(*ast.IndexExpr); ok {
				count++
			}
		}
		return true
	})
	return count
}
