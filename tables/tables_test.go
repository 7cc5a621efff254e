// Package tables holds the tables at package level against how great they may be, each and in all that one call reaches.
package tables

import (
	"go/ast"
	"go/constant"
	"go/importer"
	"go/parser"
	"go/token"
	"go/types"
	"os"
	"path/filepath"
	"strings"
	"testing"
)

const module = "vireo"

// How many of a kind one table may hold.
const (
	smallNumbers = 250
	numbers      = 200 // of 32 bits
	words        = 150 // of 64 bits
	texts        = 140 // of 5 bytes
	rows         = 50
)

// look is the project's packages, with what their tables weigh: 1 is a table that is as great as one may be.
type look struct {
	files  *token.FileSet
	info   types.Info
	others types.Importer
	packs  map[string]*pack
}

type pack struct {
	types  *types.Package
	tables map[string]float64
}

func newLook() *look {
	files := token.NewFileSet()
	info := types.Info{Types: map[ast.Expr]types.TypeAndValue{}}
	return &look{files: files, info: info, others: importer.ForCompiler(files, "source", nil), packs: map[string]*pack{}}
}

// Import: a package of the project, or of the library.
func (l *look) Import(path string) (*types.Package, error) {
	if !strings.HasPrefix(path, module+"/") {
		return l.others.Import(path)
	}
	if p := l.packs[path]; p != nil {
		return p.types, nil
	}
	names, err := filepath.Glob(filepath.Join("..", strings.TrimPrefix(path, module), "*.go"))
	if err != nil {
		return nil, err
	}
	p := &pack{tables: map[string]float64{}}
	l.packs[path] = p
	var list []*ast.File
	for _, name := range names {
		if strings.HasSuffix(name, "_test.go") {
			continue
		}
		f, err := parser.ParseFile(l.files, name, nil, parser.SkipObjectResolution)
		if err != nil {
			return nil, err
		}
		list = append(list, f)
	}
	p.types, err = (&types.Config{Importer: l}).Check(path, l.files, list, &l.info)
	for _, f := range list {
		l.weighAll(p, f)
	}
	return p.types, err
}

// weighAll: the variables that stand at package level in a file.
func (l *look) weighAll(p *pack, f *ast.File) {
	for _, d := range f.Decls {
		g, ok := d.(*ast.GenDecl)
		if !ok || g.Tok != token.VAR {
			continue
		}
		for _, s := range g.Specs {
			v := s.(*ast.ValueSpec)
			for i, value := range v.Values {
				p.tables[v.Names[i].Name] = l.weigh(value)
			}
		}
	}
}

func (l *look) weigh(e ast.Expr) float64 {
	switch x := e.(type) {
	case *ast.KeyValueExpr:
		return l.weigh(x.Value)
	case *ast.CompositeLit:
		if _, row := l.info.Types[x].Type.Underlying().(*types.Struct); row {
			return 1.0 / rows
		}
		sum := 0.0
		for _, part := range x.Elts {
			sum += l.weigh(part)
		}
		return sum
	}
	return weighValue(l.info.Types[e].Value)
}

func weighValue(v constant.Value) float64 {
	if v == nil {
		return 0
	}
	switch {
	case v.Kind() == constant.String:
		return max(1, float64(len(constant.StringVal(v)))/5) / texts
	case v.Kind() != constant.Int || constant.BitLen(v) <= 8:
		return 1.0 / smallNumbers
	case constant.BitLen(v) <= 32:
		return 1.0 / numbers
	}
	return 1.0 / words
}

// reached: all packages of the project that a call of one may reach, itself too.
func (l *look) reached(p *types.Package, seen map[string]bool) {
	if seen[p.Path()] || l.packs[p.Path()] == nil {
		return
	}
	seen[p.Path()] = true
	for _, q := range p.Imports() {
		l.reached(q, seen)
	}
}

// project: the folders of the project's own packages.
func project(t *testing.T) []string {
	t.Helper()
	found, err := os.ReadDir("..")
	if err != nil {
		t.Fatal(err)
	}
	var list []string
	for _, d := range found {
		if d.IsDir() && !strings.HasPrefix(d.Name(), ".") && d.Name() != "sharedtests" && d.Name() != "tables" {
			list = append(list, d.Name())
		}
	}
	return list
}

// A table may weigh 1 at most, and all together that one call reaches 2; by packages, as a call reaches no more than its package and those below it.
func TestTables(t *testing.T) {
	l := newLook()
	for _, name := range project(t) {
		if _, err := l.Import(module + "/" + name); err != nil {
			t.Fatal(err)
		}
	}
	for path, p := range l.packs {
		for name, w := range p.tables {
			if w > 1 {
				t.Errorf("%s.%s is %.2f tables", path, name, w)
			}
		}
		seen, sum := map[string]bool{}, 0.0
		l.reached(p.types, seen)
		for below := range seen {
			for _, w := range l.packs[below].tables {
				sum += w
			}
		}
		if sum > 2 {
			t.Errorf("%s reaches %.2f tables", path, sum)
		}
		t.Logf("%s: %.2f", path, sum)
	}
	if p := l.packs[module+"/inst"]; p == nil || p.tables["names"] < 0.5 {
		t.Errorf("the table of the operations isn't weighed")
	}
}
