package fixed_test

import (
	"go/parser"
	"go/token"
	"path/filepath"
	"strings"
	"testing"
)

// Products of 128 bits are made by shifts and conversions: no package of the library makes them.
func TestOnlyApiIsImported(t *testing.T) {
	files, err := filepath.Glob("*.go")
	if err != nil || len(files) == 0 {
		t.Fatal("no files", err)
	}
	for _, name := range files {
		if strings.HasSuffix(name, "_test.go") {
			continue
		}
		file, err := parser.ParseFile(token.NewFileSet(), name, nil, parser.ImportsOnly)
		if err != nil {
			t.Fatal(err)
		}
		for _, i := range file.Imports {
			if i.Path.Value != `"alidade/api"` {
				t.Errorf("%s imports %s", name, i.Path.Value)
			}
		}
	}
}
