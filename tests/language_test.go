package tests

import (
	"bytes"
	"go/ast"
	"go/format"
	"go/parser"
	"go/token"
	"os"
	"path/filepath"
	"slices"
	"strings"
	"testing"
)

// allowedImports are those that the language page gives the program.
var allowedImports = []string{
	"bytes", "cmp", "container/heap", "errors", "iter", "maps", "math", "math/big", "math/bits", "slices", "sort",
	"strconv", "strings", "sync", "sync/atomic", "unicode", "unicode/utf8",
}

const mostLines = 60

func TestLanguage(t *testing.T) {
	files, err := filepath.Glob("../impl/*")
	if err != nil || len(files) == 0 {
		t.Fatalf("no files: %v", err)
	}
	for _, file := range files {
		if !strings.HasSuffix(file, ".go") {
			t.Errorf("%s is no Go file", file)
			continue
		}
		checkSource(t, file)
	}
}

func checkSource(t *testing.T, file string) {
	source, err := os.ReadFile(file)
	if err != nil {
		t.Fatal(err)
	}
	if laid, err := format.Source(source); err != nil || !bytes.Equal(laid, source) {
		t.Errorf("%s does not have gofmt's layout", file)
	}
	if bytes.Contains(source, []byte("//go:")) || bytes.Contains(source, []byte("// +build")) {
		t.Errorf("%s has a line for the compiler", file)
	}
	fset := token.NewFileSet()
	parsed, err := parser.ParseFile(fset, file, source, parser.SkipObjectResolution)
	if err != nil {
		t.Fatal(err)
	}
	for _, spec := range parsed.Imports {
		if path := strings.Trim(spec.Path.Value, `"`); !slices.Contains(allowedImports, path) {
			t.Errorf("%s imports %s", file, path)
		}
	}
	for _, decl := range parsed.Decls {
		f, ok := decl.(*ast.FuncDecl)
		if !ok {
			continue
		}
		if lines := fset.Position(f.End()).Line - fset.Position(f.Pos()).Line + 1; lines > mostLines {
			t.Errorf("%s: %s has %d lines", file, f.Name.Name, lines)
		}
	}
}
