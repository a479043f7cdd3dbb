package message_test

import (
	"go/ast"
	"go/parser"
	"go/token"
	"path/filepath"
	"slices"
	"strings"
	"testing"
)

// readIn are the variables that are read by themselves in a piece of the text, but for what stands within call.
func readIn(piece ast.Node, call *ast.CallExpr) []string {
	var names []string
	ast.Inspect(piece, func(n ast.Node) bool {
		switch x := n.(type) {
		case *ast.FuncLit:
			return false
		case *ast.CallExpr:
			return x != call
		case *ast.UnaryExpr:
			_, plain := x.X.(*ast.Ident)
			return !plain || x.Op != token.AND
		case *ast.SelectorExpr: // a field's name is no variable's
			names = append(names, readIn(x.X, call)...)
			return false
		case *ast.KeyValueExpr: // nor is it as a key
			names = append(names, readIn(x.Value, call)...)
			return false
		case *ast.Ident:
			names = append(names, x.Name)
		}
		return true
	})
	return names
}

// handedTo are the variables whose addresses a call is handed.
func handedTo(call *ast.CallExpr) []string {
	var names []string
	for _, handed := range call.Args {
		if x, ok := handed.(*ast.UnaryExpr); ok && x.Op == token.AND {
			if name, ok := x.X.(*ast.Ident); ok {
				names = append(names, name.Name)
			}
		}
	}
	return names
}

// pieces are the parts of a return or an assignment that Go evaluates in an order that it does not fix in all.
func pieces(n ast.Node) []ast.Expr {
	switch x := n.(type) {
	case *ast.ReturnStmt:
		return x.Results
	case *ast.AssignStmt:
		if x.Tok != token.ASSIGN && x.Tok != token.DEFINE { // x += f(&x) reads x
			return append(slices.Clone(x.Lhs), x.Rhs...)
		}
		set := func(e ast.Expr) bool { _, plain := e.(*ast.Ident); return plain }
		return append(slices.DeleteFunc(slices.Clone(x.Lhs), set), x.Rhs...)
	}
	return nil
}

// bothOf are the variables that a call among the pieces is handed by their addresses and that are read beside that call.
func bothOf(all []ast.Expr) []string {
	var both []string
	for _, from := range all {
		ast.Inspect(from, func(n ast.Node) bool {
			call, ok := n.(*ast.CallExpr)
			for _, other := range all {
				if ok {
					read := readIn(other, call)
					both = append(both, slices.DeleteFunc(handedTo(call), func(name string) bool { return !slices.Contains(read, name) })...)
				}
			}
			_, apart := n.(*ast.FuncLit)
			return !apart
		})
	}
	return both
}

// unordered are the returns and assignments of a file that hang on whether such a call or such a read is first.
func unordered(file ast.Node) map[token.Pos][]string {
	found := map[token.Pos][]string{}
	ast.Inspect(file, func(n ast.Node) bool {
		if names := bothOf(pieces(n)); names != nil {
			found[n.Pos()] = names
		}
		return true
	})
	return found
}

// P15.2, and what each call answers: no answer hangs on an order of evaluation that Go leaves open, in any package. One
// compiler takes one order, so that the program's text alone can show it.
func TestNoOrderIsLeftOpen(t *testing.T) {
	files, err := filepath.Glob("../*/*.go")
	if err != nil || len(files) == 0 {
		t.Fatalf("%d files, %v", len(files), err)
	}
	for _, name := range files {
		if strings.HasSuffix(name, "_test.go") {
			continue
		}
		set := token.NewFileSet()
		file, err := parser.ParseFile(set, name, nil, 0)
		if err != nil {
			t.Fatal(err)
		}
		for at, names := range unordered(file) {
			t.Errorf("%s: %v: read beside a call that is handed the address, and Go leaves open which is first", set.Position(at), names)
		}
	}
}

// The look at the text finds what it is for, and only that.
func TestLookForOrdersLeftOpen(t *testing.T) {
	for line, want := range map[string]bool{
		"return m, r.last(&m)":                       true,
		"return r.last(&m), m.Kind":                  true,
		"return r.last(&m) + m":                      true,
		"return g(m, r.last(&m))":                    true,
		"x := []int{a, f(&a)}":                       true,
		"x := point{a: a, b: f(&a)}":                 true,
		"x += f(&x)":                                 true,
		"x[i], e = f(&i)":                            true,
		"e := r.last(&m)":                            false,
		"m = r.last(&m)":                             false,
		"e := r.last(&m, m)":                         false,
		"return m, e":                                false,
		"return &m, e":                               false,
		"return n, r.last(&m)":                       false,
		"return x.m, r.last(&m)":                     false,
		"x := point{a: b, b: f(&a)}":                 false,
		"f := func() int { a = 1; g(&a); return a }": false,
	} {
		file, err := parser.ParseFile(token.NewFileSet(), "", "package p\nfunc f() { "+line+" }", 0)
		if err != nil {
			t.Fatal(err)
		}
		if got := len(unordered(file)) > 0; got != want {
			t.Errorf("%s: %t", line, got)
		}
	}
}
