package cert_test

import (
	"go/ast"
	"go/build"
	"go/importer"
	"go/parser"
	"go/token"
	"go/types"
	"os/exec"
	"path/filepath"
	"strings"
	"testing"
)

// code is the package as its files have it.
type code struct {
	functions map[types.Object]*ast.FuncDecl
	info      *types.Info
}

func readCode(t *testing.T) code {
	t.Helper()
	names, err := filepath.Glob("*.go")
	if err != nil {
		t.Fatal(err)
	}
	fset := token.NewFileSet()
	var files []*ast.File
	for _, name := range names {
		if strings.HasSuffix(name, "_test.go") {
			continue
		}
		f, err := parser.ParseFile(fset, name, nil, 0)
		if err != nil {
			t.Fatal(err)
		}
		files = append(files, f)
	}
	c := code{map[types.Object]*ast.FuncDecl{}, &types.Info{
		Types: map[ast.Expr]types.TypeAndValue{}, Defs: map[*ast.Ident]types.Object{}, Uses: map[*ast.Ident]types.Object{},
	}}
	// Tests that are built with -trimpath do not know where Go's own packages are.
	if build.Default.GOROOT == "" {
		out, err := exec.Command("go", "env", "GOROOT").Output()
		if err != nil {
			t.Fatal(err)
		}
		build.Default.GOROOT = strings.TrimSpace(string(out))
	}
	config := types.Config{Importer: importer.ForCompiler(fset, "source", nil)}
	if _, err := config.Check("peloton/cert", fset, files, c.info); err != nil {
		t.Fatal(err)
	}
	for _, f := range files {
		for _, d := range f.Decls {
			if x, ok := d.(*ast.FuncDecl); ok {
				c.functions[c.info.Defs[x.Name]] = x
			}
		}
	}
	return c
}

// reached are the functions that the exported ones come to, and these.
func (c code) reached() []*ast.FuncDecl {
	var list []*ast.FuncDecl
	seen := map[types.Object]bool{}
	push := func(o types.Object) {
		if d := c.functions[o]; d != nil && !seen[o] {
			seen[o] = true
			list = append(list, d)
		}
	}
	for o, d := range c.functions {
		if d.Name.IsExported() {
			push(o)
		}
	}
	for i := 0; i < len(list); i++ {
		ast.Inspect(list[i], func(n ast.Node) bool {
			if id, ok := n.(*ast.Ident); ok {
				push(c.info.Uses[id])
			}
			return true
		})
	}
	return list
}

// takesAlong reports whether a function literal uses a variable of the function around it.
func (c code) takesAlong(outer *ast.FuncDecl, inner *ast.FuncLit) bool {
	found := false
	ast.Inspect(inner, func(n ast.Node) bool {
		if id, ok := n.(*ast.Ident); ok {
			v, ok := c.info.Uses[id].(*types.Var)
			around := ok && outer.Pos() <= v.Pos() && v.Pos() < outer.End()
			found = found || around && (v.Pos() < inner.Pos() || inner.End() <= v.Pos())
		}
		return true
	})
	return found
}

func (c code) isStruct(e ast.Expr) bool {
	_, ok := c.info.TypeOf(e).Underlying().(*types.Struct)
	return ok
}

// Ways: what the exported functions reach has maps, closures, and structs that are compared.
func TestWays(t *testing.T) {
	c := readCode(t)
	seen := map[string]bool{}
	for _, d := range c.reached() {
		ast.Inspect(d, func(n ast.Node) bool {
			switch x := n.(type) {
			case *ast.MapType:
				seen["map"] = true
			case *ast.FuncLit:
				seen["closure"] = seen["closure"] || c.takesAlong(d, x)
			case *ast.BinaryExpr:
				equal := x.Op == token.EQL || x.Op == token.NEQ
				seen["struct-compared"] = seen["struct-compared"] || equal && c.isStruct(x.X)
			}
			return true
		})
	}
	for _, way := range []string{"map", "closure", "struct-compared"} {
		if !seen[way] {
			t.Error("not used:", way)
		}
	}
}
