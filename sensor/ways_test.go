package sensor_test

import (
	"go/ast"
	"go/parser"
	"go/token"
	"testing"
)

// Counts are made of bytes by shifts and conversions of integers: no package of the library makes them, and there are both.
func TestCountsAreMadeByShiftsAndConversions(t *testing.T) {
	file, err := parser.ParseFile(token.NewFileSet(), "sensor.go", nil, 0)
	if err != nil {
		t.Fatal(err)
	}
	for _, i := range file.Imports {
		switch i.Path.Value {
		case `"alidade/api"`, `"alidade/clock"`, `"alidade/fixed"`, `"alidade/vec"`:
		default:
			t.Errorf("sensor.go imports %s", i.Path.Value)
		}
	}
	shifts, conversions := 0, 0
	ast.Inspect(file, func(n ast.Node) bool {
		switch x := n.(type) {
		case *ast.BinaryExpr:
			if _, constant := x.X.(*ast.BasicLit); !constant && (x.Op == token.SHL || x.Op == token.SHR) {
				shifts++
			}
		case *ast.CallExpr:
			if name, ok := x.Fun.(*ast.Ident); ok && (name.Name == "uint16" || name.Name == "int16") {
				conversions++
			}
		}
		return true
	})
	if shifts == 0 || conversions == 0 {
		t.Errorf("%d shifts, %d conversions", shifts, conversions)
	}
}
