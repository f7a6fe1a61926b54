package rules

import (
	"bytes"
	"go/ast"
	"go/build/constraint"
	"go/format"
	"go/parser"
	"go/token"
	"os"
	"path/filepath"
	"slices"
	"strings"
	"testing"
)

const root = ".."

// source is one Go file of the program (not of its tests).
type source struct {
	path  string
	bytes []byte
	set   *token.FileSet
	tree  *ast.File
}

// beside says whether a folder is no part of the program: git's, the script's, the tests that are laid beside it.
func beside(name string) bool {
	return name == "sharedtests" || strings.HasPrefix(name, ".") && name != root
}

// walk calls see with each file of the project.
func walk(t *testing.T, see func(path string)) {
	t.Helper()
	err := filepath.WalkDir(root, func(path string, d os.DirEntry, err error) error {
		if err != nil {
			return err
		}
		if d.IsDir() && beside(d.Name()) {
			return filepath.SkipDir
		}
		if !d.IsDir() {
			see(path)
		}
		return nil
	})
	if err != nil {
		t.Fatal(err)
	}
}

func sources(t *testing.T) []source {
	t.Helper()
	var l []source
	walk(t, func(path string) {
		if !strings.HasSuffix(path, ".go") || strings.HasSuffix(path, "_test.go") {
			return
		}
		b, err := os.ReadFile(path)
		if err != nil {
			t.Fatal(err)
		}
		s := source{path: path, bytes: b, set: token.NewFileSet()}
		if s.tree, err = parser.ParseFile(s.set, path, b, parser.ParseComments); err != nil {
			t.Fatal(err)
		}
		l = append(l, s)
	})
	if len(l) < 27 {
		t.Fatalf("%d sources: api and 26 layers are more", len(l))
	}
	return l
}

func (s source) at(n ast.Node) token.Position { return s.set.Position(n.Pos()) }

// library is what the program may import of it (LANGUAGE.md, 1).
const library = " bytes cmp container/heap errors iter maps math math/bits slices sort strconv strings sync sync/atomic unicode unicode/utf8 "

func TestImports(t *testing.T) {
	for _, s := range sources(t) {
		for _, i := range s.tree.Imports {
			p := strings.Trim(i.Path.Value, "\"`")
			if !strings.HasPrefix(p, "tenancy/") && !strings.Contains(library, " "+p+" ") {
				t.Errorf("%v: imports %s", s.at(i), p)
			}
		}
	}
}

// mayUse says whether a thing of the library may be used (LANGUAGE.md, 1).
func mayUse(pack, name string) bool {
	switch pack {
	case "iter":
		return name != "Pull" && name != "Pull2"
	case "sync":
		return slices.Contains([]string{"Mutex", "RWMutex", "WaitGroup", "Once"}, name)
	}
	return true
}

func TestWhatIsUsedOfTheLibrary(t *testing.T) {
	for _, s := range sources(t) {
		ast.Inspect(s.tree, func(n ast.Node) bool {
			switch x := n.(type) {
			case *ast.SelectorExpr:
				if p, ok := x.X.(*ast.Ident); ok && !mayUse(p.Name, x.Sel.Name) {
					t.Errorf("%v: uses %s.%s", s.at(x), p.Name, x.Sel.Name)
				}
			case *ast.CallExpr:
				if f, ok := x.Fun.(*ast.Ident); ok && (f.Name == "print" || f.Name == "println") {
					t.Errorf("%v: prints", s.at(x))
				}
			}
			return true
		})
	}
}

func TestNoOtherFilesAndNoBuildLines(t *testing.T) {
	walk(t, func(path string) {
		switch {
		case filepath.Dir(path) == root || strings.HasSuffix(path, ".go"):
		case strings.Contains(path, "/testdata/"):
		default:
			t.Errorf("%s: beside the Go files", path)
		}
	})
	for _, s := range sources(t) {
		for _, g := range s.tree.Comments {
			for _, c := range g.List {
				if strings.HasPrefix(c.Text, "//go:") || strings.HasPrefix(c.Text, "//line ") || constraint.IsGoBuild(c.Text) || constraint.IsPlusBuild(c.Text) {
					t.Errorf("%v: %s", s.at(c), c.Text)
				}
			}
		}
	}
}

func TestPackageNames(t *testing.T) {
	for _, s := range sources(t) {
		folder := filepath.Base(filepath.Dir(s.path))
		if s.tree.Name.Name != folder {
			t.Errorf("%s: package %s", s.path, s.tree.Name.Name)
		}
		if folder == "form" || folder == "try" || strings.HasPrefix(folder, "tenancy") {
			t.Errorf("%s: a folder of that name", s.path)
		}
	}
}

func TestLayout(t *testing.T) {
	for _, s := range sources(t) {
		if b, err := format.Source(s.bytes); err != nil || !bytes.Equal(b, s.bytes) {
			t.Errorf("%s: not gofmt's layout", s.path)
		}
	}
}

func TestFunctionsAreSmall(t *testing.T) {
	for _, s := range sources(t) {
		for _, d := range s.tree.Decls {
			f, ok := d.(*ast.FuncDecl)
			if !ok {
				continue
			}
			if n := s.set.Position(f.End()).Line - s.at(f).Line + 1; n > 60 {
				t.Errorf("%v: %s has %d lines", s.at(f), f.Name.Name, n)
			}
			if f.Recv == nil && f.Name.Name == "init" {
				t.Errorf("%v: start-up code", s.at(f))
			}
		}
	}
}

// TestPackageVariables: at package level stand constants, errors of one text, short tables (LANGUAGE.md, 3a and 3b).
func TestPackageVariables(t *testing.T) {
	for _, s := range sources(t) {
		for _, d := range s.tree.Decls {
			g, ok := d.(*ast.GenDecl)
			if !ok || g.Tok != token.VAR {
				continue
			}
			for _, x := range g.Specs {
				v := x.(*ast.ValueSpec)
				if len(v.Values) != len(v.Names) {
					t.Errorf("%v: a variable without a value of its own", s.at(v))
				}
				for _, e := range v.Values {
					if !mayStand(e) {
						t.Errorf("%v: no error of one text, and no table", s.at(e))
					}
				}
			}
		}
	}
}

// mayStand says whether e is an error made of one text, or a table that is written out.
func mayStand(e ast.Expr) bool {
	if c, ok := e.(*ast.CallExpr); ok {
		f, ok := c.Fun.(*ast.SelectorExpr)
		if !ok || len(c.Args) != 1 {
			return false
		}
		p, ok := f.X.(*ast.Ident)
		_, text := c.Args[0].(*ast.BasicLit)
		return ok && text && p.Name == "errors" && f.Sel.Name == "New"
	}
	good := true
	ast.Inspect(e, func(n ast.Node) bool {
		switch x := n.(type) {
		case *ast.CallExpr, *ast.FuncLit, *ast.MapType, *ast.StarExpr, *ast.FuncType, *ast.ChanType:
			good = false
		case *ast.UnaryExpr:
			good = good && x.Op != token.AND
		}
		return good
	})
	return good
}

// TestRecover: what is recovered is recovered in a function literal that is deferred (LANGUAGE.md, 3).
func TestRecover(t *testing.T) {
	for _, s := range sources(t) {
		deferred := map[ast.Node]bool{}
		ast.Inspect(s.tree, func(n ast.Node) bool {
			if d, ok := n.(*ast.DeferStmt); ok {
				if f, ok := d.Call.Fun.(*ast.FuncLit); ok {
					ast.Inspect(f, func(n ast.Node) bool {
						deferred[n] = true
						return true
					})
				}
			}
			if c, ok := n.(*ast.CallExpr); ok {
				if f, ok := c.Fun.(*ast.Ident); ok && f.Name == "recover" && !deferred[c] {
					t.Errorf("%v: recover outside a deferred function literal", s.at(c))
				}
			}
			return true
		})
	}
}
