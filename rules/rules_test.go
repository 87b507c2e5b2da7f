// Package rules: tests that the program keeps to its language, and leaves alone what is given.
package rules

import (
	"bytes"
	"crypto/sha256"
	"encoding/hex"
	"go/ast"
	"go/format"
	"go/parser"
	"go/token"
	"os"
	"path/filepath"
	"slices"
	"strconv"
	"strings"
	"testing"
)

// allowed: the packages of the library that the language has.
const allowed = " bytes cmp container/heap errors iter maps math math/bits slices sort strconv strings sync sync/atomic unicode unicode/utf8 "

// longest: how many lines a function has at most.
const longest = 60

// program: the files of the program, but not its tests, nor those that are laid beside it.
func program(t *testing.T) []string {
	t.Helper()
	all, err := filepath.Glob("../*/*.go")
	if err != nil || len(all) == 0 {
		t.Fatalf("the program isn't there: %v", err)
	}
	return slices.DeleteFunc(all, func(name string) bool {
		return strings.HasSuffix(name, "_test.go") || strings.HasPrefix(name, "../sharedtests/")
	})
}

// parsed file, with its remarks.
func parsed(t *testing.T, name string) (*token.FileSet, *ast.File) {
	t.Helper()
	fset := token.NewFileSet()
	f, err := parser.ParseFile(fset, name, nil, parser.ParseComments)
	if err != nil {
		t.Fatal(err)
	}
	return fset, f
}

func TestImports(t *testing.T) {
	for _, name := range program(t) {
		_, f := parsed(t, name)
		for _, i := range f.Imports {
			path, _ := strconv.Unquote(i.Path.Value)
			if !strings.HasPrefix(path, "penstock/") && !strings.Contains(allowed, " "+path+" ") {
				t.Errorf("%s imports %s", name, path)
			}
		}
	}
}

func TestNoDirectives(t *testing.T) {
	for _, name := range program(t) {
		_, f := parsed(t, name)
		for _, g := range f.Comments {
			for _, c := range g.List {
				if strings.HasPrefix(c.Text, "//go:") || strings.HasPrefix(c.Text, "// +build") {
					t.Errorf("%s has the line %s", name, c.Text)
				}
			}
		}
	}
}

func TestShortFunctions(t *testing.T) {
	for _, name := range program(t) {
		fset, f := parsed(t, name)
		for _, d := range f.Decls {
			if n := fset.Position(d.End()).Line - fset.Position(d.Pos()).Line + 1; n > longest {
				if fn, ok := d.(*ast.FuncDecl); ok {
					t.Errorf("%s: %s has %d lines", name, fn.Name.Name, n)
				}
			}
		}
	}
}

func TestLayout(t *testing.T) {
	for _, name := range program(t) {
		was, err := os.ReadFile(name)
		if err != nil {
			t.Fatal(err)
		}
		if is, err := format.Source(was); err != nil || !bytes.Equal(is, was) {
			t.Errorf("%s isn't laid out as gofmt does it: %v", name, err)
		}
	}
}

// TestOnlyGo: beside the Go files of a package nothing lies.
func TestOnlyGo(t *testing.T) {
	for _, name := range program(t) {
		l, err := os.ReadDir(filepath.Dir(name))
		if err != nil {
			t.Fatal(err)
		}
		for _, e := range l {
			if e.IsDir() || !strings.HasSuffix(e.Name(), ".go") {
				t.Errorf("beside %s lies %s", name, e.Name())
			}
		}
	}
}

// TestAPI: package api is as it was given, and alone.
func TestAPI(t *testing.T) {
	l, err := os.ReadDir("../api")
	if err != nil || len(l) != 1 || l[0].Name() != "api.go" {
		t.Fatalf("package api has the files %v, %v", l, err)
	}
	text, err := os.ReadFile("../api/api.go")
	if err != nil {
		t.Fatal(err)
	}
	sum := sha256.Sum256(text)
	if s := hex.EncodeToString(sum[:]); s != given {
		t.Errorf("api.go is another one: %s", s)
	}
}

// given: the digest of api.go as it was given.
const given = "8750ad39032af427f0ee8114e0b1509f52d17d89bfcfd26c1c0fb882a3156dd6"
