package tests

import (
	"go/ast"
	"go/importer"
	"go/parser"
	"go/token"
	"go/types"
	"path/filepath"
	"strings"
	"testing"
)

// program is the package impl as it is written, with what each name in it is.
type program struct {
	fset  *token.FileSet
	files []*ast.File
	info  *types.Info
}

func readProgram(t *testing.T) program {
	t.Helper()
	p := program{fset: token.NewFileSet(), info: &types.Info{
		Types: map[ast.Expr]types.TypeAndValue{},
		Defs:  map[*ast.Ident]types.Object{},
		Uses:  map[*ast.Ident]types.Object{},
	}}
	paths, err := filepath.Glob("../impl/*.go")
	if err != nil || len(paths) == 0 {
		t.Fatal("no files of impl", err)
	}
	for _, path := range paths {
		f, err := parser.ParseFile(p.fset, path, nil, parser.SkipObjectResolution)
		if err != nil {
			t.Fatal(err)
		}
		p.files = append(p.files, f)
	}
	config := types.Config{Importer: importer.ForCompiler(p.fset, "source", nil)}
	if _, err := config.Check("impl", p.fset, p.files, p.info); err != nil {
		t.Fatal(err)
	}
	return p
}

// tables is each variable at package level whose value is written out, rather than an error.
func (p program) tables(t *testing.T) map[types.Object]bool {
	t.Helper()
	found := map[types.Object]bool{}
	for _, f := range p.files {
		for _, d := range f.Decls {
			g, ok := d.(*ast.GenDecl)
			if !ok || g.Tok != token.VAR {
				continue
			}
			for _, s := range g.Specs {
				v := s.(*ast.ValueSpec)
				if len(v.Values) != len(v.Names) {
					t.Errorf("%s: a variable without a value of its own", p.fset.Position(v.Pos()))
					continue
				}
				for k, name := range v.Names {
					if call, ok := v.Values[k].(*ast.CallExpr); ok && types.ExprString(call.Fun) == "errors.New" {
						continue
					}
					found[p.info.Defs[name]] = true
				}
			}
		}
	}
	return found
}

// onTheSpot says whether a table's name, the last one on the way, stands where one number, text or bool is read out of the table, or how many rows it has.
func (p program) onTheSpot(way []ast.Node) bool {
	at := len(way) - 1
	read := way[at].(ast.Expr)
	for at--; at >= 0; at-- {
		row, isRow := way[at].(*ast.IndexExpr)
		part, isPart := way[at].(*ast.SelectorExpr)
		if !(isRow && row.X == read) && !(isPart && part.X == read && p.isPart(part)) {
			break
		}
		read = way[at].(ast.Expr)
	}
	switch x := way[at].(type) {
	case *ast.RangeStmt:
		return x.X == read && x.Value == nil
	case *ast.CallExpr:
		if types.ExprString(x.Fun) == "len" {
			return true
		}
	case *ast.SelectorExpr, *ast.IncDecStmt:
		return false
	case *ast.UnaryExpr:
		if x.Op == token.AND {
			return false
		}
	case *ast.AssignStmt:
		for _, left := range x.Lhs {
			if left == read {
				return false
			}
		}
	}
	_, basic := p.info.Types[read].Type.Underlying().(*types.Basic)
	return basic
}

func (p program) isPart(s *ast.SelectorExpr) bool {
	v, ok := p.info.Uses[s.Sel].(*types.Var)
	return ok && v.IsField()
}

// eachUse goes through the names of tables that stand in functions.
func (p program) eachUse(tables map[types.Object]bool, use func(f *ast.FuncDecl, o types.Object, way []ast.Node)) {
	for _, file := range p.files {
		for _, d := range file.Decls {
			f, ok := d.(*ast.FuncDecl)
			if !ok {
				continue
			}
			var way []ast.Node
			ast.Inspect(f, func(n ast.Node) bool {
				if n == nil {
					way = way[:len(way)-1]
					return true
				}
				way = append(way, n)
				if id, ok := n.(*ast.Ident); ok && tables[p.info.Uses[id]] {
					use(f, p.info.Uses[id], way)
				}
				return true
			})
		}
	}
}

func TestTablesAreReadOnTheSpot(t *testing.T) {
	p := readProgram(t)
	p.eachUse(p.tables(t), func(f *ast.FuncDecl, o types.Object, way []ast.Node) {
		if !p.onTheSpot(way) {
			t.Errorf("%s: %s is not read on the spot in %s", p.fset.Position(way[len(way)-1].Pos()), o.Name(), f.Name.Name)
		}
	})
}

func TestFormsOfLinesAreStructsInATable(t *testing.T) {
	p := readProgram(t)
	var readers []string
	p.eachUse(p.tables(t), func(f *ast.FuncDecl, o types.Object, way []ast.Node) {
		if o.Name() == "lineForms" && f.Recv == nil && f.Name.IsExported() {
			readers = append(readers, f.Name.Name)
		}
	})
	if all := strings.Join(readers, " "); !strings.Contains(all, "DskText") || !strings.Contains(all, "DskEvent") {
		t.Errorf("lineForms is read by %q", all)
	}
	for o := range p.tables(t) {
		if o.Name() != "lineForms" {
			continue
		}
		rows, ok := o.Type().Underlying().(*types.Array)
		if !ok || rows.Len() != 11 {
			t.Fatalf("lineForms is %s", o.Type())
		}
		if _, ok := rows.Elem().Underlying().(*types.Struct); !ok {
			t.Errorf("a row of lineForms is %s", rows.Elem())
		}
	}
}
