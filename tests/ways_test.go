package tests

import (
	"go/ast"
	"go/parser"
	"go/token"
	"go/types"
	"path/filepath"
	"testing"
)

// layerHas asks whether a part of this layer's file is what holds asks for.
func layerHas(t *testing.T, file string, holds func(ast.Node) bool) bool {
	t.Helper()
	f, err := parser.ParseFile(token.NewFileSet(), "../impl/"+file, nil, 0)
	if err != nil {
		t.Fatal(err)
	}
	found := false
	ast.Inspect(f, func(n ast.Node) bool {
		found = found || n != nil && holds(n)
		return !found
	})
	return found
}

func TestWaysOfSectors(t *testing.T) {
	variadic := func(n ast.Node) bool {
		e, ok := n.(*ast.Ellipsis)
		return ok && e.Elt != nil
	}
	if !layerHas(t, "l01_sector.go", variadic) {
		t.Error("words are not put by a variadic function")
	}
}

func TestWaysOfADisk(t *testing.T) {
	deletes := func(n ast.Node) bool {
		c, ok := n.(*ast.CallExpr)
		if !ok {
			return false
		}
		f, ok := c.Fun.(*ast.Ident)
		return ok && f.Name == "delete"
	}
	byNumber := func(n ast.Node) bool {
		m, ok := n.(*ast.MapType)
		if !ok {
			return false
		}
		k, ok := m.Key.(*ast.Ident)
		return ok && k.Name == "int"
	}
	if !layerHas(t, "l02_mem.go", byNumber) || !layerHas(t, "l02_mem.go", deletes) {
		t.Error("what is in the cache does not stand in a map by its number, from which what is flushed is deleted")
	}
}

// typedLayer answers a layer's file, and of what type each part of it is. What
// comes from the library is not looked at: its types are not asked for here.
func typedLayer(t *testing.T, file string) (*ast.File, *types.Info) {
	t.Helper()
	names, err := filepath.Glob("../impl/*.go")
	if err != nil {
		t.Fatal(err)
	}
	fset, files := token.NewFileSet(), []*ast.File{}
	var layer *ast.File
	for _, name := range names {
		f, err := parser.ParseFile(fset, name, nil, 0)
		if err != nil {
			t.Fatal(err)
		}
		files = append(files, f)
		if filepath.Base(name) == file {
			layer = f
		}
	}
	if layer == nil {
		t.Fatal("no such layer:", file)
	}
	info := &types.Info{Types: map[ast.Expr]types.TypeAndValue{}}
	passOver := types.Config{Error: func(error) {}}
	passOver.Check("impl", fset, files, info)
	return layer, info
}

func TestWaysOfPlaces(t *testing.T) {
	layer, info := typedLayer(t, "l03_geo.go")
	found := false
	ast.Inspect(layer, func(n ast.Node) bool {
		if b, ok := n.(*ast.BinaryExpr); ok && (b.Op == token.EQL || b.Op == token.NEQ) {
			if of := info.Types[b.X].Type; of != nil {
				_, isStruct := of.Underlying().(*types.Struct)
				found = found || isStruct
			}
		}
		return true
	})
	if !found {
		t.Error("places are not compared as structs")
	}
}

func TestWaysOfSupers(t *testing.T) {
	array := func(n ast.Node) bool {
		a, ok := n.(*ast.ArrayType)
		return ok && a.Len != nil
	}
	if !layerHas(t, "l04_super.go", array) {
		t.Error("what a disk knows does not stand in an array")
	}
}

func TestWaysOfTheJournal(t *testing.T) {
	threeIndexes := func(n ast.Node) bool {
		s, ok := n.(*ast.SliceExpr)
		return ok && s.Slice3
	}
	if !layerHas(t, "l05_rec.go", threeIndexes) {
		t.Error("slots are not cut by three indexes")
	}
}

// statesTold answers of a type switch how many types it tells from each other.
func statesTold(n ast.Node) int {
	s, ok := n.(*ast.TypeSwitchStmt)
	if !ok {
		return 0
	}
	told := 0
	for _, c := range s.Body.List {
		told += len(c.(*ast.CaseClause).List)
	}
	return told
}

func TestWaysOfAnArray(t *testing.T) {
	faced := func(n ast.Node) bool {
		i, ok := n.(*ast.InterfaceType)
		return ok && len(i.Methods.List) > 0
	}
	told := func(n ast.Node) bool { return statesTold(n) > 1 }
	if !layerHas(t, "l06_arr.go", faced) || !layerHas(t, "l06_arr.go", told) {
		t.Error("a disk is not an interface with a type for each state, told by a type switch")
	}
}
