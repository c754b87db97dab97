package tests

import (
	"go/ast"
	"go/parser"
	"go/token"
	"go/types"
	"path/filepath"
	"testing"
)

// layerHas asks whether a part of this layer's file is what holds asks for.
func layerHas(t *testing.T, file string, holds func(ast.Node) bool) bool {
	t.Helper()
	f, err := parser.ParseFile(token.NewFileSet(), "../impl/"+file, nil, 0)
	if err != nil {
		t.Fatal(err)
	}
	return anyPart(f, holds)
}

func anyPart(of ast.Node, holds func(ast.Node) bool) bool {
	found := false
	ast.Inspect(of, func(n ast.Node) bool {
		found = found || n != nil && holds(n)
		return !found
	})
	return found
}

func TestWaysOfSectors(t *testing.T) {
	variadic := func(n ast.Node) bool {
		e, ok := n.(*ast.Ellipsis)
		return ok && e.Elt != nil
	}
	if !layerHas(t, "l01_sector.go", variadic) {
		t.Error("words are not put by a variadic function")
	}
}

// calls answers whether a part is a call of what has this name alone.
func calls(name string) func(ast.Node) bool {
	return func(n ast.Node) bool {
		c, ok := n.(*ast.CallExpr)
		if !ok {
			return false
		}
		f, ok := c.Fun.(*ast.Ident)
		return ok && f.Name == name
	}
}

func TestWaysOfADisk(t *testing.T) {
	byNumber := func(n ast.Node) bool {
		m, ok := n.(*ast.MapType)
		if !ok {
			return false
		}
		k, ok := m.Key.(*ast.Ident)
		return ok && k.Name == "int"
	}
	if !layerHas(t, "l02_mem.go", byNumber) || !layerHas(t, "l02_mem.go", calls("delete")) {
		t.Error("what is in the cache does not stand in a map by its number, from which what is flushed is deleted")
	}
}

// typedLayer answers a layer's file, and of what type each part of it is. What
// comes from the library is not looked at: its types are not asked for here.
func typedLayer(t *testing.T, file string) (*ast.File, *types.Info) {
	t.Helper()
	names, err := filepath.Glob("../impl/*.go")
	if err != nil {
		t.Fatal(err)
	}
	fset, files := token.NewFileSet(), []*ast.File{}
	var layer *ast.File
	for _, name := range names {
		f, err := parser.ParseFile(fset, name, nil, 0)
		if err != nil {
			t.Fatal(err)
		}
		files = append(files, f)
		if filepath.Base(name) == file {
			layer = f
		}
	}
	if layer == nil {
		t.Fatal("no such layer:", file)
	}
	info := &types.Info{Types: map[ast.Expr]types.TypeAndValue{}, Selections: map[*ast.SelectorExpr]*types.Selection{}}
	passOver := types.Config{Error: func(error) {}}
	passOver.Check("impl", fset, files, info)
	return layer, info
}

func TestWaysOfPlaces(t *testing.T) {
	layer, info := typedLayer(t, "l03_geo.go")
	compared := func(n ast.Node) bool {
		b, ok := n.(*ast.BinaryExpr)
		if !ok || b.Op != token.EQL && b.Op != token.NEQ || info.Types[b.X].Type == nil {
			return false
		}
		_, isStruct := info.Types[b.X].Type.Underlying().(*types.Struct)
		return isStruct
	}
	if !anyPart(layer, compared) {
		t.Error("places are not compared as structs")
	}
}

func TestWaysOfSupers(t *testing.T) {
	array := func(n ast.Node) bool {
		a, ok := n.(*ast.ArrayType)
		return ok && a.Len != nil
	}
	if !layerHas(t, "l04_super.go", array) {
		t.Error("what a disk knows does not stand in an array")
	}
}

func TestWaysOfTheJournal(t *testing.T) {
	threeIndexes := func(n ast.Node) bool {
		s, ok := n.(*ast.SliceExpr)
		return ok && s.Slice3
	}
	if !layerHas(t, "l05_rec.go", threeIndexes) {
		t.Error("slots are not cut by three indexes")
	}
}

// statesTold answers of a type switch how many types it tells from each other.
func statesTold(n ast.Node) int {
	s, ok := n.(*ast.TypeSwitchStmt)
	if !ok {
		return 0
	}
	told := 0
	for _, c := range s.Body.List {
		told += len(c.(*ast.CaseClause).List)
	}
	return told
}

func TestWaysOfAnArray(t *testing.T) {
	faced := func(n ast.Node) bool {
		i, ok := n.(*ast.InterfaceType)
		return ok && len(i.Methods.List) > 0
	}
	told := func(n ast.Node) bool { return statesTold(n) > 1 }
	if !layerHas(t, "l06_arr.go", faced) || !layerHas(t, "l06_arr.go", told) {
		t.Error("a disk is not an interface with a type for each state, told by a type switch")
	}
}

func TestWaysOfWriting(t *testing.T) {
	layer, info := typedLayer(t, "l07_write.go")
	listOfClosures := func(n ast.Node) bool {
		l, ok := n.(*ast.ArrayType)
		if !ok || l.Len != nil || info.Types[l.Elt].Type == nil {
			return false
		}
		_, isFunction := info.Types[l.Elt].Type.Underlying().(*types.Signature)
		return isFunction
	}
	if !anyPart(layer, listOfClosures) {
		t.Error("disk operations are not a list of closures")
	}
	catches := func(n ast.Node) bool {
		d, ok := n.(*ast.DeferStmt)
		if !ok {
			return false
		}
		f, ok := d.Call.Fun.(*ast.FuncLit)
		return ok && anyPart(f, calls("recover"))
	}
	if !anyPart(layer, calls("panic")) || !anyPart(layer, catches) {
		t.Error("where the power goes it is not given up by a panic, which a deferred recover catches")
	}
}

func TestWaysOfMemory(t *testing.T) {
	generic := func(n ast.Node) bool {
		s, ok := n.(*ast.TypeSpec)
		return ok && s.TypeParams != nil
	}
	if !layerHas(t, "l08_cache.go", generic) {
		t.Error("stripes in order are not a generic type")
	}
}

// iterators answers the names of a file's functions that answer an iter.Seq.
func iterators(f *ast.File) []string {
	names := []string{}
	for _, d := range f.Decls {
		fun, ok := d.(*ast.FuncDecl)
		if !ok || fun.Type.Results == nil {
			continue
		}
		sequence := func(n ast.Node) bool {
			s, ok := n.(*ast.SelectorExpr)
			return ok && types.ExprString(s) == "iter.Seq"
		}
		if anyPart(fun.Type.Results, sequence) {
			names = append(names, fun.Name.Name)
		}
	}
	return names
}

func TestWaysOfTheFall(t *testing.T) {
	layer, _ := typedLayer(t, "l09_fall.go")
	ranged := func(n ast.Node) bool {
		r, ok := n.(*ast.RangeStmt)
		if !ok {
			return false
		}
		for _, name := range iterators(layer) {
			if calls(name)(r.X) {
				return true
			}
		}
		return false
	}
	if !anyPart(layer, ranged) {
		t.Error("records do not come out of an iterator")
	}
}

func TestWaysOfWholeStripes(t *testing.T) {
	layer, info := typedLayer(t, "l10_scrub.go")
	ranged := func(n ast.Node) bool {
		r, ok := n.(*ast.RangeStmt)
		if !ok || info.Types[r.X].Type == nil {
			return false
		}
		b, ok := info.Types[r.X].Type.Underlying().(*types.Basic)
		return ok && b.Info()&types.IsInteger != 0
	}
	if !anyPart(layer, ranged) {
		t.Error("stripes are not a range over an integer")
	}
}

// A method is promoted where it is reached through a field that is embedded.
func TestWaysOfADiskThatFails(t *testing.T) {
	layer, info := typedLayer(t, "l11_fail.go")
	promoted := func(n ast.Node) bool {
		s, ok := n.(*ast.SelectorExpr)
		if !ok || info.Selections[s] == nil {
			return false
		}
		return info.Selections[s].Kind() == types.MethodVal && len(info.Selections[s].Index()) > 1
	}
	if !anyPart(layer, promoted) {
		t.Error("a disk does not embed its store, whose methods are promoted")
	}
}

// methodValues answers those of a part's selectors that name a method of what
// they stand on, but do not call it.
func methodValues(of ast.Node, info *types.Info) []string {
	called, names := map[ast.Expr]bool{}, []string{}
	ast.Inspect(of, func(n ast.Node) bool {
		switch x := n.(type) {
		case *ast.CallExpr:
			called[ast.Unparen(x.Fun)] = true
		case *ast.SelectorExpr:
			if s := info.Selections[x]; s != nil && s.Kind() == types.MethodVal && !called[x] {
				names = append(names, x.Sel.Name)
			}
		}
		return true
	})
	return names
}

func TestWaysOfBuilding(t *testing.T) {
	layer, info := typedLayer(t, "l12_build.go")
	if names := methodValues(layer, info); len(names) < 3 {
		t.Error("a step is not a method value:", names)
	}
}

func TestWaysOfCommands(t *testing.T) {
	branches := func(n ast.Node) bool {
		b, ok := n.(*ast.BranchStmt)
		return ok && b.Tok == token.FALLTHROUGH
	}
	if !layerHas(t, "l13_cmd.go", branches) {
		t.Error("a command without its room does not fall through to the next look")
	}
	counted := func(n ast.Node) bool {
		d, ok := n.(*ast.GenDecl)
		if !ok || d.Tok != token.CONST {
			return false
		}
		return anyPart(d, named("OpRead")) && anyPart(d, named("iota")) && anyPart(d, named("OpZero"))
	}
	if !layerHas(t, "l13_cmd.go", counted) {
		t.Error("kinds of commands are not constants with iota")
	}
}

// A method is reached as an expression where it is named of its type: what it
// is of is the first argument then.
func TestWaysOfTheModel(t *testing.T) {
	layer, info := typedLayer(t, "l14_model.go")
	expression := func(n ast.Node) bool {
		s, ok := n.(*ast.SelectorExpr)
		return ok && info.Selections[s] != nil && info.Selections[s].Kind() == types.MethodExpr
	}
	table := func(n ast.Node) bool {
		l, ok := n.(*ast.CompositeLit)
		if !ok {
			return false
		}
		rows := 0
		for _, e := range l.Elts {
			if anyPart(e, expression) {
				rows++
			}
		}
		return rows > 1
	}
	if !anyPart(layer, table) {
		t.Error("what a kind does is not a method expression in a table")
	}
}

// Jobs are reached by pointers where a function answers where they stand.
func TestWaysOfAnEngine(t *testing.T) {
	pointer := func(n ast.Node) bool {
		s, ok := n.(*ast.StarExpr)
		return ok && named("Job")(s.X)
	}
	answers := func(n ast.Node) bool {
		f, ok := n.(*ast.FuncType)
		return ok && f.Results != nil && anyPart(f.Results, pointer)
	}
	stands := func(n ast.Node) bool {
		u, ok := n.(*ast.UnaryExpr)
		return ok && u.Op == token.AND
	}
	if !layerHas(t, "l15_eng.go", answers) || !layerHas(t, "l15_eng.go", stands) {
		t.Error("what is worked on is not reached by pointers")
	}
}

// A function value is answered by one function, and called by another one.
func TestWaysOfWorking(t *testing.T) {
	layer, info := typedLayer(t, "l16_work.go")
	isFunction := func(e ast.Expr) bool {
		if info.Types[e].Type == nil {
			return false
		}
		_, ok := info.Types[e].Type.Underlying().(*types.Signature)
		return ok
	}
	answered := func(n ast.Node) bool {
		f, ok := n.(*ast.FuncDecl)
		if !ok || f.Type.Results == nil {
			return false
		}
		for _, r := range f.Type.Results.List {
			if isFunction(r.Type) {
				return true
			}
		}
		return false
	}
	called := func(n ast.Node) bool {
		c, ok := n.(*ast.CallExpr)
		if !ok {
			return false
		}
		_, atOnce := c.Fun.(*ast.CallExpr)
		return isFunction(c.Fun) && (atOnce || info.Types[c.Fun].Addressable())
	}
	if !anyPart(layer, answered) || !anyPart(layer, called) {
		t.Error("a job's next part is not a function value")
	}
}

// What is refused is an error of a type of this layer, and where one is asked
// for, errors.As is handed a place of that type.
func TestWaysOfWhatMayCome(t *testing.T) {
	layer, info := typedLayer(t, "l17_event.go")
	own := func(e ast.Expr) bool {
		at, ok := info.Types[e].Type.(*types.Pointer)
		if !ok {
			return false
		}
		of, ok := at.Elem().(*types.Named)
		return ok && layer.Pos() <= of.Obj().Pos() && of.Obj().Pos() < layer.End() && types.Implements(of, errorType())
	}
	asked := func(n ast.Node) bool {
		c, ok := n.(*ast.CallExpr)
		if !ok || len(c.Args) != 2 {
			return false
		}
		s, ok := c.Fun.(*ast.SelectorExpr)
		return ok && s.Sel.Name == "As" && named("errors")(s.X) && own(c.Args[1])
	}
	if !anyPart(layer, asked) {
		t.Error("what is refused is not an error of a type of its own, asked for by errors.As")
	}
}

func errorType() *types.Interface {
	return types.Universe.Lookup("error").Type().Underlying().(*types.Interface)
}

// named answers whether a part is this name.
func named(name string) func(ast.Node) bool {
	return func(n ast.Node) bool {
		i, ok := n.(*ast.Ident)
		return ok && i.Name == name
	}
}
