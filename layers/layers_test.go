package layers

import (
	"go/ast"
	"go/parser"
	"go/token"
	"path/filepath"
	"slices"
	"strings"
	"testing"
)

// calls: of each layer, those that it may call beside api, as the document's map says.
func calls() map[string]string {
	return map[string]string{
		"fixed":  "",
		"trig":   "fixed",
		"vec":    "fixed",
		"quat":   "fixed vec",
		"triad":  "fixed quat vec",
		"mat":    "fixed",
		"clock":  "fixed",
		"orbit":  "clock fixed trig",
		"sun":    "clock fixed trig vec",
		"field":  "clock fixed trig vec",
		"frame":  "",
		"sensor": "clock fixed vec",
		"bdot":   "fixed vec",
		"filter": "fixed mat quat vec",
		"mode":   "",
		"orders": "orbit",
		"telem":  "clock fixed",
		"craft":  "bdot clock field filter fixed frame mode orbit orders sensor sun telem triad vec",
		"script": "craft frame orders sensor telem",
	}
}

const library = "bytes cmp container/heap errors iter maps math math/bits slices sort strconv strings sync sync/atomic unicode unicode/utf8"

// files answers the program's files of a layer, without its tests.
func files(t *testing.T, layer string) []*ast.File {
	t.Helper()
	names, err := filepath.Glob(filepath.Join("..", layer, "*.go"))
	if err != nil {
		t.Fatal(err)
	}
	var parsed []*ast.File
	for _, name := range names {
		if strings.HasSuffix(name, "_test.go") {
			continue
		}
		file, err := parser.ParseFile(token.NewFileSet(), name, nil, 0)
		if err != nil {
			t.Fatal(err)
		}
		parsed = append(parsed, file)
	}
	if len(parsed) == 0 {
		t.Errorf("%s has no files", layer)
	}
	return parsed
}

func TestLayersCallThoseBelowAlone(t *testing.T) {
	for layer, below := range calls() {
		may := strings.Fields(library + " alidade/api")
		for _, name := range strings.Fields(below) {
			may = append(may, "alidade/"+name)
		}
		for _, file := range files(t, layer) {
			for _, i := range file.Imports {
				if path := strings.Trim(i.Path.Value, `"`); !slices.Contains(may, path) {
					t.Errorf("%s imports %s", layer, path)
				}
			}
		}
	}
}

func TestNoLayerHasInit(t *testing.T) {
	for layer := range calls() {
		for _, file := range files(t, layer) {
			for _, d := range file.Decls {
				if f, ok := d.(*ast.FuncDecl); ok && f.Recv == nil && f.Name.Name == "init" {
					t.Errorf("%s has an init", layer)
				}
			}
		}
	}
}
