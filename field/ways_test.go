package field_test

import (
	"go/ast"
	"go/parser"
	"go/token"
	"path/filepath"
	"strings"
	"testing"
)

// What was worked of degrees and orders lies in maps whose keys are arrays of two numbers: the package has such maps, and no others.
func TestMapsOfArraysOfTwo(t *testing.T) {
	names, err := filepath.Glob("*.go")
	if err != nil {
		t.Fatal(err)
	}
	maps := 0
	for _, name := range names {
		if strings.HasSuffix(name, "_test.go") {
			continue
		}
		file, err := parser.ParseFile(token.NewFileSet(), name, nil, 0)
		if err != nil {
			t.Fatal(err)
		}
		ast.Inspect(file, func(n ast.Node) bool {
			if m, ok := n.(*ast.MapType); ok {
				maps++
				if !isArrayOfTwo(m.Key) {
					t.Errorf("%s: a map whose keys are no arrays of two numbers", name)
				}
			}
			return true
		})
	}
	if maps == 0 {
		t.Error("no map")
	}
}

func isArrayOfTwo(key ast.Expr) bool {
	array, ok := key.(*ast.ArrayType)
	if !ok {
		return false
	}
	count, isNumber := array.Len.(*ast.BasicLit)
	of, isNamed := array.Elt.(*ast.Ident)
	return isNumber && count.Value == "2" && isNamed && strings.HasPrefix(of.Name, "int")
}
