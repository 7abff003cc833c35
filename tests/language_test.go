package tests

import (
	"bytes"
	"go/ast"
	"go/format"
	"go/parser"
	"go/token"
	"os"
	"path/filepath"
	"slices"
	"strconv"
	"strings"
	"testing"
)

const mostLines = 60

// allowedImports are the packages of the standard library that the language of the program has.
func allowedImports() []string {
	return strings.Fields("bytes cmp container/heap errors iter maps math math/bits slices sort strconv strings sync sync/atomic unicode unicode/utf8")
}

// TestLanguage checks those rules of the program's language that its text shows at once.
func TestLanguage(t *testing.T) {
	files, err := filepath.Glob("../impl/*")
	if err != nil || len(files) != 40 {
		t.Fatalf("got %d files of package impl (%v), want one for each of the 40 layers", len(files), err)
	}
	for _, file := range files {
		text, err := os.ReadFile(file)
		if err != nil {
			t.Fatal(err)
		}
		checkText(t, file, text)
		checkSyntax(t, file, text)
	}
}

func checkText(t *testing.T, file string, text []byte) {
	t.Helper()
	if laidOut, err := format.Source(text); err != nil || !bytes.Equal(laidOut, text) {
		t.Errorf("%s is not in gofmt's layout (%v)", file, err)
	}
	if bytes.Contains(text, []byte("//go:")) || bytes.Contains(text, []byte("// +build")) {
		t.Errorf("%s has a directive or a build tag", file)
	}
}

func checkSyntax(t *testing.T, file string, text []byte) {
	t.Helper()
	files := token.NewFileSet()
	tree, err := parser.ParseFile(files, file, text, parser.SkipObjectResolution)
	if err != nil {
		t.Fatal(err)
	}
	for _, spec := range tree.Imports {
		if path, err := strconv.Unquote(spec.Path.Value); err != nil || !slices.Contains(allowedImports(), path) {
			t.Errorf("%s imports %s", file, spec.Path.Value)
		}
	}
	for _, declared := range tree.Decls {
		function, ok := declared.(*ast.FuncDecl)
		if !ok {
			continue
		}
		lines := files.Position(function.End()).Line - files.Position(function.Pos()).Line + 1
		if lines > mostLines {
			t.Errorf("%s: %s has %d lines, more than %d", file, function.Name.Name, lines, mostLines)
		}
	}
}
