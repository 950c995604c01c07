package checks

import (
	"bytes"
	"go/ast"
	"go/format"
	"go/token"
	"go/types"
	"os"
	"path/filepath"
	"slices"
	"strconv"
	"strings"
	"testing"
)

// mayImport are the packages of the library that the program may use.
var mayImport = []string{"bytes", "cmp", "container/heap", "errors", "iter", "maps", "math", "math/bits", "slices", "sort", "strconv", "strings", "sync", "sync/atomic", "unicode", "unicode/utf8"}

// mostLines is how long a function is at most.
const mostLines = 60

// calls says of each layer which of the module's packages it may import besides api.
var calls = map[string]string{
	"octet":    "",
	"sample":   "graph",
	"disk":     "",
	"sum":      "octet",
	"wal":      "octet disk sum",
	"record":   "octet",
	"graph":    "octet",
	"keys":     "record",
	"ops":      "graph",
	"plan":     "record graph keys",
	"region":   "graph",
	"slots":    "",
	"table":    "octet record graph keys ops",
	"deno":     "record graph keys ops table",
	"link":     "record",
	"gate":     "record",
	"txlog":    "record",
	"sink":     "record txlog",
	"snap":     "octet graph keys ops table txlog",
	"task":     "record graph keys ops plan table gate sink snap",
	"register": "octet disk wal",
	"lease":    "",
	"coord":    "",
	"retain":   "",
	"store":    "octet disk sum wal record graph keys ops plan region slots table deno link gate txlog sink snap task register lease coord retain",
	"job":      "",
	"heart":    "",
	"frame":    "octet sum record graph slots deno link txlog snap",
	"net":      "",
	"cluster":  "plan slots link task frame",
	"manager":  "graph keys region slots txlog snap lease coord retain store job heart frame",
	"world":    "disk txlog sink store frame net cluster manager",
	"script":   "record graph keys txlog retain job manager world",
}

func TestImports(t *testing.T) {
	p := newProgram()
	for _, name := range packages(t) {
		s, err := p.load(name)
		if err != nil {
			t.Fatal(err)
		}
		for _, f := range s.files {
			for _, i := range f.Imports {
				path, _ := strconv.Unquote(i.Path.Value)
				own, ok := strings.CutPrefix(path, module+"/")
				if !ok && !slices.Contains(mayImport, path) {
					t.Errorf("%s imports %s", name, path)
				}
				if ok && own != "api" && !slices.Contains(strings.Fields(calls[name]), own) {
					t.Errorf("%s calls %s, which is not below it", name, own)
				}
			}
		}
	}
}

func TestLayout(t *testing.T) {
	paths, err := filepath.Glob("../*/*.go")
	if err != nil {
		t.Fatal(err)
	}
	for _, path := range paths {
		b, err := os.ReadFile(path)
		if err != nil {
			t.Fatal(err)
		}
		want, err := format.Source(b)
		if err != nil {
			t.Fatal(err)
		}
		if !bytes.Equal(b, want) && !strings.Contains(path, "sharedtests") {
			t.Errorf("%s is not in gofmt's layout", path)
		}
	}
}

func TestFunctions(t *testing.T) {
	p := newProgram()
	for _, name := range packages(t) {
		s, err := p.load(name)
		if err != nil {
			t.Fatal(err)
		}
		for _, f := range s.files {
			ast.Inspect(f, func(n ast.Node) bool {
				switch x := n.(type) {
				case *ast.FuncDecl:
					if l := p.fset.Position(x.End()).Line - p.fset.Position(x.Pos()).Line + 1; l > mostLines {
						t.Errorf("%s: %s has %d lines", name, x.Name.Name, l)
					}
				case *ast.GoStmt, *ast.ChanType, *ast.SelectStmt:
					t.Errorf("%s: something runs beside something else", name)
				case *ast.MapType:
					if b, ok := p.under(x.Value).(*types.Basic); ok && b.Info()&(types.IsBoolean|types.IsString) != 0 {
						t.Errorf("%s: a map with bools or strings as values", name)
					}
				}
				return true
			})
		}
	}
}

// TestPackageLevel: at package level stand constants alone, and short tables of literals.
func TestPackageLevel(t *testing.T) {
	p := newProgram()
	for _, name := range packages(t) {
		s, err := p.load(name)
		if err != nil {
			t.Fatal(err)
		}
		for _, f := range s.files {
			for _, d := range f.Decls {
				g, ok := d.(*ast.GenDecl)
				if !ok || g.Tok != token.VAR {
					continue
				}
				for _, spec := range g.Specs {
					v := spec.(*ast.ValueSpec)
					for i, n := range v.Names {
						if len(v.Values) <= i || !table(p.info.Defs[n].Type()) {
							t.Errorf("%s: the variable %s stands at package level", name, n.Name)
						}
					}
				}
			}
		}
	}
}

// table tells whether a type is one of a short table: an array or a slice, of no maps and functions.
func table(t types.Type) bool {
	switch x := t.Underlying().(type) {
	case *types.Array:
		return plain(x.Elem())
	case *types.Slice:
		return plain(x.Elem())
	}
	return false
}

func plain(t types.Type) bool {
	switch x := t.Underlying().(type) {
	case *types.Basic:
		return x.Info()&types.IsFloat == 0
	case *types.Struct:
		for i := range x.NumFields() {
			if !plain(x.Field(i).Type()) {
				return false
			}
		}
		return true
	}
	return table(t)
}
