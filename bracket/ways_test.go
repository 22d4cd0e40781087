package bracket_test

import (
	"go/ast"
	"go/build"
	"go/importer"
	"go/parser"
	"go/token"
	"go/types"
	"os/exec"
	"path/filepath"
	"strings"
	"testing"
)

// readFiles are the files of the package, without tests, and what their names and expressions stand for.
func readFiles(t *testing.T) ([]*ast.File, *types.Info) {
	t.Helper()
	names, err := filepath.Glob("*.go")
	if err != nil {
		t.Fatal(err)
	}
	fset := token.NewFileSet()
	var files []*ast.File
	for _, name := range names {
		if strings.HasSuffix(name, "_test.go") {
			continue
		}
		f, err := parser.ParseFile(fset, name, nil, 0)
		if err != nil {
			t.Fatal(err)
		}
		files = append(files, f)
	}
	// Tests that are built with -trimpath do not know where Go's own packages are.
	if build.Default.GOROOT == "" {
		out, err := exec.Command("go", "env", "GOROOT").Output()
		if err != nil {
			t.Fatal(err)
		}
		build.Default.GOROOT = strings.TrimSpace(string(out))
	}
	info := &types.Info{Types: map[ast.Expr]types.TypeAndValue{}, Defs: map[*ast.Ident]types.Object{}, Uses: map[*ast.Ident]types.Object{}}
	config := types.Config{Importer: importer.ForCompiler(fset, "source", nil)}
	if _, err := config.Check("peloton/bracket", fset, files, info); err != nil {
		t.Fatal(err)
	}
	return files, info
}

// reached are the declarations of functions that the exported ones come to, and these.
func reached(files []*ast.File, info *types.Info) []ast.Node {
	declared := map[types.Object]ast.Node{}
	var work []types.Object
	for _, f := range files {
		ast.Inspect(f, func(n ast.Node) bool {
			if x, ok := n.(*ast.FuncDecl); ok {
				declared[info.Defs[x.Name]] = x
				if x.Name.IsExported() {
					work = append(work, info.Defs[x.Name])
				}
			}
			return true
		})
	}
	var list []ast.Node
	seen := map[types.Object]bool{}
	for len(work) > 0 {
		o := work[0]
		work = work[1:]
		if declared[o] == nil || seen[o] {
			continue
		}
		seen[o], list = true, append(list, declared[o])
		ast.Inspect(declared[o], func(n ast.Node) bool {
			if id, ok := n.(*ast.Ident); ok {
				work = append(work, info.Uses[id])
			}
			return true
		})
	}
	return list
}

// takesAlong reports whether a function literal uses a variable of the declaration around it.
func takesAlong(info *types.Info, outer ast.Node, inner *ast.FuncLit) bool {
	found := false
	ast.Inspect(inner, func(n ast.Node) bool {
		if id, ok := n.(*ast.Ident); ok {
			v, ok := info.Uses[id].(*types.Var)
			around := ok && outer.Pos() <= v.Pos() && v.Pos() < outer.End()
			found = found || around && (v.Pos() < inner.Pos() || inner.End() <= v.Pos())
		}
		return true
	})
	return found
}

// Ways: what the exported functions reach has a generic function, a closure, and a range over a function.
func TestWays(t *testing.T) {
	seen := map[string]bool{}
	files, info := readFiles(t)
	for _, d := range reached(files, info) {
		ast.Inspect(d, func(n ast.Node) bool {
			switch x := n.(type) {
			case *ast.FuncDecl:
				seen["generic-function"] = seen["generic-function"] || x.Type.TypeParams != nil
			case *ast.FuncLit:
				seen["closure"] = seen["closure"] || takesAlong(info, d, x)
			case *ast.RangeStmt:
				_, ok := info.TypeOf(x.X).Underlying().(*types.Signature)
				seen["range-function"] = seen["range-function"] || ok
			}
			return true
		})
	}
	for _, way := range []string{"generic-function", "closure", "range-function"} {
		if !seen[way] {
			t.Error("not used:", way)
		}
	}
}
