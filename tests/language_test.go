package tests

import (
	"go/ast"
	"go/format"
	"go/parser"
	"go/token"
	"os"
	"path/filepath"
	"strings"
	"testing"
)

const (
	allowedImports = " bytes cmp container/heap errors iter maps math math/bits slices sort strconv strings sync sync/atomic unicode unicode/utf8 "
	mostLines      = 60
)

// TestLanguage holds the program against the rules of its language that can be read off its text.
func TestLanguage(t *testing.T) {
	entries, err := os.ReadDir("../impl")
	if err != nil {
		t.Fatal(err)
	}
	for _, e := range entries {
		if e.IsDir() || !strings.HasSuffix(e.Name(), ".go") || strings.HasSuffix(e.Name(), "_test.go") {
			t.Errorf("impl/%s is no file of the program", e.Name())
			continue
		}
		checkFile(t, filepath.Join("../impl", e.Name()))
	}
}

func checkFile(t *testing.T, path string) {
	text, err := os.ReadFile(path)
	if err != nil {
		t.Fatal(err)
	}
	if laid, err := format.Source(text); err != nil || string(laid) != string(text) {
		t.Errorf("%s: not in gofmt's layout (%v)", path, err)
	}
	fset := token.NewFileSet()
	f, err := parser.ParseFile(fset, path, text, parser.ParseComments)
	if err != nil {
		t.Fatal(err)
	}
	for _, i := range f.Imports {
		if name := strings.Trim(i.Path.Value, "\""); !strings.Contains(allowedImports, " "+name+" ") {
			t.Errorf("%s: imports %s", path, name)
		}
	}
	for _, g := range f.Comments {
		for _, c := range g.List {
			if strings.HasPrefix(c.Text, "//go:") || strings.HasPrefix(c.Text, "// +build") {
				t.Errorf("%s: %s", path, c.Text)
			}
		}
	}
	for _, d := range f.Decls {
		if fn, ok := d.(*ast.FuncDecl); ok {
			if n := fset.Position(fn.End()).Line - fset.Position(fn.Pos()).Line + 1; n > mostLines {
				t.Errorf("%s: %s has %d lines", path, fn.Name.Name, n)
			}
		}
	}
}
