// Package checks holds tests of the program's form: which of the language's ways each layer has, and what no package may have.
package checks

import (
	"go/ast"
	"go/importer"
	"go/parser"
	"go/token"
	"go/types"
	"os"
	"path/filepath"
	"strings"
	"testing"
)

const module = "headrace"

// source is a package, as it is written, with what its words mean.
type source struct {
	name  string
	files []*ast.File
	types *types.Package
}

// program is all packages that are asked for, and those that they import.
type program struct {
	fset  *token.FileSet
	info  *types.Info
	packs map[string]*source
	std   types.Importer
}

func newProgram() *program {
	fset := token.NewFileSet()
	return &program{
		fset:  fset,
		packs: map[string]*source{},
		std:   importer.ForCompiler(fset, "source", nil),
		info: &types.Info{
			Types:      map[ast.Expr]types.TypeAndValue{},
			Uses:       map[*ast.Ident]types.Object{},
			Defs:       map[*ast.Ident]types.Object{},
			Selections: map[*ast.SelectorExpr]*types.Selection{},
			Instances:  map[*ast.Ident]types.Instance{},
		},
	}
}

// Import lets the packages of the module import one another.
func (p *program) Import(path string) (*types.Package, error) {
	if name, ok := strings.CutPrefix(path, module+"/"); ok {
		s, err := p.load(name)
		if err != nil {
			return nil, err
		}
		return s.types, nil
	}
	return p.std.Import(path)
}

func (p *program) load(name string) (*source, error) {
	if s := p.packs[name]; s != nil {
		return s, nil
	}
	s := &source{name: name}
	p.packs[name] = s
	paths, err := filepath.Glob(filepath.Join("..", name, "*.go"))
	if err != nil {
		return nil, err
	}
	for _, path := range paths {
		if strings.HasSuffix(path, "_test.go") {
			continue
		}
		f, err := parser.ParseFile(p.fset, path, nil, parser.ParseComments)
		if err != nil {
			return nil, err
		}
		s.files = append(s.files, f)
	}
	c := types.Config{Importer: p}
	s.types, err = c.Check(module+"/"+name, p.fset, s.files, p.info)
	return s, err
}

// packages tells the folders of the program that have Go files beside tests.
func packages(t *testing.T) []string {
	t.Helper()
	rows, err := os.ReadDir("..")
	if err != nil {
		t.Fatal(err)
	}
	var out []string
	for _, r := range rows {
		if !r.IsDir() || r.Name() == "sharedtests" || strings.HasPrefix(r.Name(), ".") {
			continue
		}
		paths, _ := filepath.Glob(filepath.Join("..", r.Name(), "*.go"))
		for _, path := range paths {
			if !strings.HasSuffix(path, "_test.go") {
				out = append(out, r.Name())
				break
			}
		}
	}
	return out
}
