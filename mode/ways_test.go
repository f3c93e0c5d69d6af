package mode_test

import (
	"go/ast"
	"go/parser"
	"go/token"
	"testing"
)

// structsOf: the names of a file's struct types.
func structsOf(file *ast.File) map[string]bool {
	names := map[string]bool{}
	ast.Inspect(file, func(n ast.Node) bool {
		if x, ok := n.(*ast.TypeSpec); ok {
			_, names[x.Name.Name] = x.Type.(*ast.StructType)
		}
		return true
	})
	return names
}

// Where a fault leads from a mode lies in a map whose keys are structs: the package has such a map, no others, and asks it by such a key.
func TestFaultsLeadByAMapOfStructs(t *testing.T) {
	file, err := parser.ParseFile(token.NewFileSet(), "mode.go", nil, 0)
	if err != nil {
		t.Fatal(err)
	}
	structs := structsOf(file)
	isStruct := func(e ast.Expr) bool {
		name, ok := e.(*ast.Ident)
		return ok && structs[name.Name]
	}
	maps, asked := 0, 0
	ast.Inspect(file, func(n ast.Node) bool {
		switch x := n.(type) {
		case *ast.MapType:
			maps++
			if !isStruct(x.Key) {
				t.Error("a map whose keys are no structs")
			}
		case *ast.IndexExpr:
			if key, ok := x.Index.(*ast.CompositeLit); ok && isStruct(key.Type) {
				asked++
			}
		}
		return true
	})
	if maps == 0 || asked == 0 {
		t.Errorf("%d maps, asked %d times", maps, asked)
	}
}

// Nothing is kept from step to step: at package level stand no variables.
func TestNoVariablesAtPackageLevel(t *testing.T) {
	file, err := parser.ParseFile(token.NewFileSet(), "mode.go", nil, 0)
	if err != nil {
		t.Fatal(err)
	}
	for _, d := range file.Decls {
		if g, ok := d.(*ast.GenDecl); ok && g.Tok == token.VAR {
			t.Error("a variable at package level")
		}
	}
}
