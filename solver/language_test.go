package solver_test

import (
	"bytes"
	"crypto/sha256"
	"fmt"
	"go/ast"
	"go/format"
	"go/parser"
	"go/token"
	"io/fs"
	"os"
	"path/filepath"
	"strings"
	"testing"
)

// TestGiven: package api stays as it lies, and alone.
func TestGiven(t *testing.T) {
	text, err := os.ReadFile("../api/api.go")
	if err != nil {
		t.Fatal(err)
	}
	const want = "b38a7efecd6acace6854cd8ca79bb38d8cf772ff46146d7496c86422a7bfe81f"
	if got := fmt.Sprintf("%x", sha256.Sum256(text)); got != want {
		t.Errorf("api/api.go was changed: %s", got)
	}
	if l, _ := filepath.Glob("../api/*"); len(l) != 1 {
		t.Errorf("beside api/api.go lies something: %q", l)
	}
}

// TestLanguage: the program keeps to the small part of Go that it is to be written in, as far as its syntax shows.
func TestLanguage(t *testing.T) {
	files := 0
	err := filepath.WalkDir("..", func(path string, d fs.DirEntry, err error) error {
		if err != nil {
			return err
		}
		if d.IsDir() && (d.Name() == "sharedtests" || d.Name() == ".git") {
			return fs.SkipDir
		}
		if !d.IsDir() && strings.HasSuffix(path, ".go") {
			files++
			checkFile(t, path)
		}
		return nil
	})
	if err != nil || files < 5 {
		t.Errorf("%d files, %v", files, err)
	}
}

// checkFile tells what one file has that it may not have; a test's file need only be laid out well.
func checkFile(t *testing.T, path string) {
	text, err := os.ReadFile(path)
	if err != nil {
		t.Fatal(err)
	}
	if laid, err := format.Source(text); err != nil || !bytes.Equal(laid, text) {
		t.Errorf("%s: not as gofmt lays it out: %v", path, err)
	}
	if strings.HasSuffix(path, "_test.go") {
		return
	}
	set := token.NewFileSet()
	file, err := parser.ParseFile(set, path, text, parser.ParseComments)
	if err != nil {
		t.Fatal(err)
	}
	for _, imp := range file.Imports {
		if p := imp.Path.Value; p != `"strconv"` && !strings.HasPrefix(p, `"reason/`) {
			t.Errorf("%s imports %s", path, p)
		}
	}
	for _, group := range file.Comments {
		for _, c := range group.List {
			if strings.HasPrefix(c.Text, "//go:") {
				t.Errorf("%s: %s", set.Position(c.Pos()), c.Text)
			}
		}
	}
	checkDeclarations(t, set, file)
	ast.Inspect(file, func(n ast.Node) bool {
		if what := forbidden(n); what != "" {
			t.Errorf("%s: %s", set.Position(n.Pos()), what)
		}
		return true
	})
}

// checkDeclarations looks at package-level variables, at functions' lengths and at function types outside a function's head.
func checkDeclarations(t *testing.T, set *token.FileSet, file *ast.File) {
	heads := make(map[*ast.FuncType]bool)
	for _, d := range file.Decls {
		switch d := d.(type) {
		case *ast.FuncDecl:
			heads[d.Type] = true
			if n := set.Position(d.End()).Line - set.Position(d.Pos()).Line + 1; n > 42 && file.Name.Name != "api" {
				t.Errorf("%s: %d lines", set.Position(d.Pos()), n)
			}
			if d.Type.TypeParams != nil {
				t.Errorf("%s: a type parameter", set.Position(d.Pos()))
			}
		case *ast.GenDecl:
			if d.Tok == token.VAR && !isTable(d) {
				t.Errorf("%s: a variable that is no table", set.Position(d.Pos()))
			}
		}
	}
	ast.Inspect(file, func(n ast.Node) bool {
		if f, ok := n.(*ast.FuncType); ok && !heads[f] {
			t.Errorf("%s: a function value", set.Position(f.Pos()))
		}
		return true
	})
}

// isTable tells whether each variable is an array that is written out.
func isTable(d *ast.GenDecl) bool {
	for _, spec := range d.Specs {
		v := spec.(*ast.ValueSpec)
		if len(v.Values) != 1 {
			return false
		}
		lit, ok := v.Values[0].(*ast.CompositeLit)
		if !ok {
			return false
		}
		if a, ok := lit.Type.(*ast.ArrayType); !ok || a.Len == nil {
			return false
		}
	}
	return true
}

// forbidden names what a node is that may not be there; "" if it may.
func forbidden(n ast.Node) string {
	switch n := n.(type) {
	case *ast.GoStmt, *ast.DeferStmt, *ast.SelectStmt, *ast.SendStmt, *ast.ChanType, *ast.MapType, *ast.InterfaceType, *ast.FuncLit, *ast.TypeAssertExpr, *ast.TypeSwitchStmt:
		return fmt.Sprintf("%T", n)
	case *ast.BasicLit:
		if n.Kind == token.FLOAT || n.Kind == token.IMAG {
			return n.Value
		}
	case *ast.Ident:
		switch n.Name {
		case "panic", "recover", "cap", "any", "error", "float32", "float64", "complex64", "complex128", "uintptr":
			return n.Name
		}
	case *ast.AssignStmt:
		for _, l := range n.Lhs {
			if _, plain := l.(*ast.Ident); !plain && len(n.Lhs) > 1 {
				return "an assignment to several targets that are not all plain names"
			}
		}
	}
	return ""
}
