package tests

import (
	"go/ast"
	"go/parser"
	"go/token"
	"testing"
)

// layerHas asks whether a part of this layer's file is what holds asks for.
func layerHas(t *testing.T, file string, holds func(ast.Node) bool) bool {
	t.Helper()
	f, err := parser.ParseFile(token.NewFileSet(), "../impl/"+file, nil, 0)
	if err != nil {
		t.Fatal(err)
	}
	found := false
	ast.Inspect(f, func(n ast.Node) bool {
		found = found || n != nil && holds(n)
		return !found
	})
	return found
}

func TestWaysOfSectors(t *testing.T) {
	variadic := func(n ast.Node) bool {
		e, ok := n.(*ast.Ellipsis)
		return ok && e.Elt != nil
	}
	if !layerHas(t, "l01_sector.go", variadic) {
		t.Error("words are not put by a variadic function")
	}
}

func TestWaysOfADisk(t *testing.T) {
	deletes := func(n ast.Node) bool {
		c, ok := n.(*ast.CallExpr)
		if !ok {
			return false
		}
		f, ok := c.Fun.(*ast.Ident)
		return ok && f.Name == "delete"
	}
	byNumber := func(n ast.Node) bool {
		m, ok := n.(*ast.MapType)
		if !ok {
			return false
		}
		k, ok := m.Key.(*ast.Ident)
		return ok && k.Name == "int"
	}
	if !layerHas(t, "l02_mem.go", byNumber) || !layerHas(t, "l02_mem.go", deletes) {
		t.Error("what is in the cache does not stand in a map by its number, from which what is flushed is deleted")
	}
}
