package checks

import (
	"go/ast"
	"go/token"
	"go/types"
	"testing"
)

// waysOf says of each layer which of the language's ways it leans on, as far as the text of the program shows them.
var waysOf = []struct {
	layer string
	ways  []string
}{
	{"octet", []string{"range-integer", "closure", "embedding", "three-index"}},
	{"disk", []string{"embedding", "closure", "range-function", "copy", "label"}},
	{"sum", []string{"closure", "range-integer", "three-index"}},
	{"wal", []string{"range-function", "label", "embedding", "closure", "copy"}},
	{"record", []string{"embedding", "method-value", "map"}},
	{"graph", []string{"range-function", "closure", "variadic"}},
	{"keys", []string{"array", "range-function", "array-compared"}},
	{"ops", []string{"array", "closure", "range-function", "variadic"}},
	{"plan", []string{"range-function", "struct-compared", "closure", "generic-function"}},
	{"region", []string{"pointer", "range-function", "variadic"}},
	{"slots", []string{"map", "closure", "generic-function"}},
	{"table", []string{"binary-search", "copy", "closure", "range-function"}},
	{"deno", []string{"closure", "range-function", "generic-function"}},
	{"link", []string{"copy", "range-function", "closure"}},
	{"gate", []string{"range-function", "variadic", "copy"}},
	{"txlog", []string{"binary-search", "copy", "closure", "map", "variadic"}},
	{"sink", []string{"variadic", "map", "closure", "copy"}},
	{"snap", []string{"array-compared", "range-function", "copy", "variadic"}},
	{"task", []string{"map", "method-expression", "embedding", "promoted", "variadic"}},
	{"register", []string{"map", "embedding", "closure", "delete"}},
	{"lease", []string{"closure", "fallthrough", "struct-compared"}},
	{"coord", []string{"binary-search", "copy", "closure", "range-function"}},
	{"retain", []string{"range-function", "closure", "struct-compared"}},
	{"store", []string{"map", "range-function", "embedding", "closure"}},
	{"job", []string{"array", "iota", "map"}},
	{"heart", []string{"binary-search", "copy", "range-function", "closure"}},
	{"frame", []string{"method-value", "map", "embedding", "generic-function", "generic-type"}},
	{"net", []string{"binary-search", "copy", "range-function", "closure"}},
	{"cluster", []string{"map", "method-expression", "embedding", "promoted", "generic-function", "label"}},
	{"manager", []string{"map", "method-value", "embedding", "range-function", "closure"}},
	{"world", []string{"map", "method-value", "embedding", "range-function", "variadic"}},
	{"script", []string{"array", "label", "generic-function", "pointer", "embedding", "variadic"}},
}

func TestWays(t *testing.T) {
	p := newProgram()
	for _, row := range waysOf {
		s, err := p.load(row.layer)
		if err != nil {
			t.Fatal(err)
		}
		got := p.ways(s)
		for _, way := range row.ways {
			if !got[way] {
				t.Errorf("%s: has no %s", row.layer, way)
			}
		}
	}
}

// ways tells which ways stand in a package's text.
func (p *program) ways(s *source) map[string]bool {
	got := map[string]bool{}
	for _, f := range s.files {
		called := map[ast.Expr]bool{}
		ast.Inspect(f, func(n ast.Node) bool {
			if x, ok := n.(*ast.CallExpr); ok {
				called[ast.Unparen(x.Fun)] = true
			}
			p.statement(n, got)
			p.declaration(n, got)
			p.expression(n, got, called)
			return true
		})
	}
	return got
}

func (p *program) under(e ast.Expr) types.Type {
	if t := p.info.Types[e].Type; t != nil {
		return t.Underlying()
	}
	return nil
}

func (p *program) statement(n ast.Node, got map[string]bool) {
	switch x := n.(type) {
	case *ast.LabeledStmt:
		got["label"] = true
	case *ast.BranchStmt:
		got[x.Tok.String()] = true
	case *ast.RangeStmt:
		switch t := p.under(x.X).(type) {
		case *types.Signature:
			got["range-function"] = true
		case *types.Basic:
			if t.Info()&types.IsInteger != 0 {
				got["range-integer"] = true
			}
		}
	}
}

func (p *program) declaration(n ast.Node, got map[string]bool) {
	switch x := n.(type) {
	case *ast.StructType:
		for _, f := range x.Fields.List {
			if len(f.Names) == 0 {
				got["embedding"] = true
			}
		}
	case *ast.TypeSpec:
		if x.TypeParams != nil {
			got["generic-type"] = true
		}
		if _, ok := x.Type.(*ast.StructType); ok {
			got["struct"] = true
		}
	case *ast.FuncDecl:
		if x.Type.TypeParams != nil {
			got["generic-function"] = true
		}
	case *ast.Ellipsis:
		if x.Elt != nil {
			got["variadic"] = true
		}
	case *ast.ArrayType:
		if x.Len != nil {
			got["array"] = true
		}
	case *ast.MapType:
		got["map"] = true
	}
}

func (p *program) expression(n ast.Node, got map[string]bool, called map[ast.Expr]bool) {
	switch x := n.(type) {
	case *ast.FuncLit:
		got["closure"] = true
	case *ast.StarExpr:
		got["pointer"] = true
	case *ast.SliceExpr:
		got["three-index"] = got["three-index"] || x.Slice3
	case *ast.BinaryExpr:
		if x.Op == token.EQL || x.Op == token.NEQ {
			p.compared(x.X, got)
		}
	case *ast.CallExpr:
		p.call(x, got)
	case *ast.Ident:
		if o := p.info.Uses[x]; o != nil && o.Pkg() == nil && o.Name() == "iota" {
			got["iota"] = true
		}
	case *ast.SelectorExpr:
		s := p.info.Selections[x]
		if s == nil {
			return
		}
		got["promoted"] = got["promoted"] || len(s.Index()) > 1
		got["method-expression"] = got["method-expression"] || s.Kind() == types.MethodExpr
		got["method-value"] = got["method-value"] || s.Kind() == types.MethodVal && !called[x]
	}
}

func (p *program) compared(e ast.Expr, got map[string]bool) {
	switch p.under(e).(type) {
	case *types.Array:
		got["array-compared"] = true
	case *types.Struct:
		got["struct-compared"] = true
	}
}

func (p *program) call(x *ast.CallExpr, got map[string]bool) {
	switch f := ast.Unparen(x.Fun).(type) {
	case *ast.Ident:
		if b, ok := p.info.Uses[f].(*types.Builtin); ok {
			got[b.Name()] = true
		}
	case *ast.SelectorExpr:
		o := p.info.Uses[f.Sel]
		if o == nil || o.Pkg() == nil {
			return
		}
		switch o.Pkg().Path() + "." + o.Name() {
		case "slices.Clone", "maps.Clone", "bytes.Clone":
			got["copy"] = true
		case "slices.BinarySearch", "slices.BinarySearchFunc", "sort.Search":
			got["binary-search"] = true
		}
	}
}
