package telem_test

import (
	"go/ast"
	"go/parser"
	"go/token"
	"testing"
)

func parsed(t *testing.T) *ast.File {
	t.Helper()
	file, err := parser.ParseFile(token.NewFileSet(), "telem.go", nil, 0)
	if err != nil {
		t.Fatal(err)
	}
	return file
}

// Counts are made of bytes by shifts and conversions of integers: no package of the library makes them, and there are both, on both ways.
func TestCountsAreMadeByShiftsAndConversions(t *testing.T) {
	file := parsed(t)
	for _, i := range file.Imports {
		switch i.Path.Value {
		case `"alidade/api"`, `"alidade/clock"`, `"alidade/fixed"`:
		default:
			t.Errorf("telem.go imports %s", i.Path.Value)
		}
	}
	shifts, conversions := map[token.Token]int{}, map[string]int{}
	ast.Inspect(file, func(n ast.Node) bool {
		switch x := n.(type) {
		case *ast.BinaryExpr:
			if _, constant := x.X.(*ast.BasicLit); !constant {
				shifts[x.Op]++
			}
		case *ast.CallExpr:
			if name, ok := x.Fun.(*ast.Ident); ok {
				conversions[name.Name]++
			}
		}
		return true
	})
	if shifts[token.SHL] == 0 || shifts[token.SHR] == 0 {
		t.Errorf("shifts: %v", shifts)
	}
	if conversions["byte"] == 0 || conversions["uint16"] == 0 || conversions["int16"] == 0 {
		t.Errorf("conversions: %v", conversions)
	}
}

// Nothing is kept from call to call: at package level stand no variables.
func TestNoVariablesAtPackageLevel(t *testing.T) {
	for _, d := range parsed(t).Decls {
		if g, ok := d.(*ast.GenDecl); ok && g.Tok == token.VAR {
			t.Error("a variable at package level")
		}
	}
}
