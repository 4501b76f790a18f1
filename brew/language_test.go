package brew_test

import (
	"go/ast"
	"go/parser"
	"go/token"
	"os"
	"path/filepath"
	"strings"
	"testing"
)

// TestLanguage keeps the program, not its tests, to the part of Go that it is written in.
func TestLanguage(t *testing.T) {
	paths, err := filepath.Glob("../*/*.go")
	if err != nil {
		t.Fatal(err)
	}
	read := 0
	for _, path := range paths {
		if strings.HasSuffix(path, "_test.go") {
			continue
		}
		read++
		content, err := os.ReadFile(path)
		if err != nil {
			t.Fatal(err)
		}
		if strings.Contains(string(content), "//go:") {
			t.Errorf("%s has a //go: line", path)
		}
		files := token.NewFileSet()
		file, err := parser.ParseFile(files, path, content, 0)
		if err != nil {
			t.Fatal(err)
		}
		for _, declared := range file.Decls {
			if list, isList := declared.(*ast.GenDecl); isList && list.Tok == token.VAR {
				t.Errorf("%s: a package-level variable", files.Position(list.Pos()))
			}
		}
		ast.Inspect(file, func(n ast.Node) bool {
			if what := refused(files, n); what != "" {
				t.Errorf("%s: %s", files.Position(n.Pos()), what)
			}
			return true
		})
	}
	if read == 0 {
		t.Error("no file of the program was found")
	}
}

// refused answers what the language does not have.
func refused(files *token.FileSet, n ast.Node) string {
	switch n := n.(type) {
	case *ast.GoStmt, *ast.DeferStmt, *ast.SelectStmt, *ast.SendStmt, *ast.ChanType:
		return "a goroutine, a channel or a defer"
	case *ast.MapType, *ast.InterfaceType, *ast.FuncLit, *ast.TypeAssertExpr:
		return "a map, an interface or a closure"
	case *ast.BasicLit:
		if n.Kind == token.FLOAT || n.Kind == token.IMAG {
			return "a float"
		}
	case *ast.Ident:
		switch n.Name {
		case "any", "error", "float32", "float64", "complex64", "complex128", "uintptr", "panic", "recover", "cap":
			return n.Name
		}
	case *ast.AssignStmt:
		for _, target := range n.Lhs {
			if name, plain := target.(*ast.Ident); len(n.Lhs) > 1 && (!plain || name.Name == "_") {
				return "an assignment to several targets, not all of them local variables"
			}
		}
	case *ast.ImportSpec:
		if path := n.Path.Value; path != `"strconv"` && !strings.HasPrefix(path, `"brew/`) {
			return "the import of " + path
		}
	case *ast.FuncDecl:
		if lines := files.Position(n.End()).Line - files.Position(n.Pos()).Line + 1; lines > 40 {
			return "a function of more than 40 lines"
		}
		if n.Type.TypeParams != nil {
			return "generics"
		}
	}
	return ""
}
