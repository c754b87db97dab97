package tests

import (
	"go/ast"
	"go/parser"
	"go/token"
	"testing"
)

// layerHas asks whether a part of this layer's file is what holds asks for.
func layerHas(t *testing.T, file string, holds func(ast.Node) bool) bool {
	t.Helper()
	f, err := parser.ParseFile(token.NewFileSet(), "../impl/"+file, nil, 0)
	if err != nil {
		t.Fatal(err)
	}
	found := false
	ast.Inspect(f, func(n ast.Node) bool {
		found = found || n != nil && holds(n)
		return !found
	})
	return found
}

func TestWaysOfSectors(t *testing.T) {
	variadic := func(n ast.Node) bool {
		e, ok := n.(*ast.Ellipsis)
		return ok && e.Elt != nil
	}
	if !layerHas(t, "l01_sector.go", variadic) {
		t.Error("words are not put by a variadic function")
	}
}
