package tests

import (
	"bytes"
	"go/ast"
	"go/format"
	"go/parser"
	"go/token"
	"os"
	"path/filepath"
	"strings"
	"testing"
)

// permitted are the packages that ../shared/LANGUAGE.md lets the program import.
const permitted = " bytes cmp container/heap errors iter maps math math/bits slices sort strconv strings sync sync/atomic unicode unicode/utf8 "

// mostLines is how long a function of the program may be.
const mostLines = 60

func TestLanguageOfTheProgram(t *testing.T) {
	entries, err := os.ReadDir("../impl")
	if err != nil {
		t.Fatal(err)
	}
	for _, entry := range entries {
		if entry.IsDir() || !strings.HasSuffix(entry.Name(), ".go") || strings.HasSuffix(entry.Name(), "_test.go") {
			t.Errorf("impl has %s, which is no file of a layer", entry.Name())
			continue
		}
		checkFile(t, filepath.Join("../impl", entry.Name()))
	}
}

func checkFile(t *testing.T, path string) {
	t.Helper()
	text, err := os.ReadFile(path)
	if err != nil {
		t.Fatal(err)
	}
	if laidOut, err := format.Source(text); err != nil || !bytes.Equal(laidOut, text) {
		t.Errorf("%s has not gofmt's layout", path)
	}
	set := token.NewFileSet()
	file, err := parser.ParseFile(set, path, text, parser.ParseComments)
	if err != nil {
		t.Fatal(err)
	}
	for _, spec := range file.Imports {
		if name := strings.Trim(spec.Path.Value, `"`); !strings.Contains(permitted, " "+name+" ") {
			t.Errorf("%s imports %s", path, name)
		}
	}
	for _, group := range file.Comments {
		for _, comment := range group.List {
			if strings.HasPrefix(comment.Text, "//go:") || strings.HasPrefix(comment.Text, "// +build") {
				t.Errorf("%s has the directive %s", path, comment.Text)
			}
		}
	}
	checkLengths(t, set, file)
}

func checkLengths(t *testing.T, set *token.FileSet, file *ast.File) {
	t.Helper()
	for _, declaration := range file.Decls {
		function, ok := declaration.(*ast.FuncDecl)
		if !ok {
			continue
		}
		from, to := set.Position(function.Pos()), set.Position(function.End())
		if lines := to.Line - from.Line + 1; lines > mostLines {
			t.Errorf("%s: the function %s has %d lines", from, function.Name.Name, lines)
		}
	}
}
