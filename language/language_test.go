// Package language holds the program's text against the rules of its language, as far as the text shows them: what is imported, which layer calls which, how long functions are, how they are laid out.
package language

import (
	"bytes"
	"go/ast"
	"go/format"
	"go/parser"
	"go/token"
	"os"
	"path/filepath"
	"slices"
	"strconv"
	"strings"
	"testing"
)

const root = ".."

// longest is how many lines a function may have.
const longest = 60

func library() []string {
	return []string{"bytes", "cmp", "container/heap", "errors", "iter", "maps", "math", "math/bits", "slices", "sort", "strconv", "strings", "sync", "sync/atomic", "unicode", "unicode/utf8"}
}

// layers are the packages by their stages, the first in place 0.
func layers() []string {
	return strings.Fields("field scalar sha512 edwards eddsa suite shamir vss frost wire drbg seal store keyfile participant score coordinator blame session roast dkg refresh derive policy chain history engine console")
}

// below tells for each layer which stages it may call: pairs of a first and a last one.
func below() map[string][][2]int {
	return map[string][][2]int{
		"field": {}, "scalar": {}, "sha512": {},
		"edwards": {{1, 2}}, "eddsa": {{2, 4}}, "suite": {{2, 4}}, "shamir": {{2, 2}},
		"vss": {{2, 2}, {4, 4}, {6, 7}}, "frost": {{2, 8}}, "wire": {{3, 3}}, "drbg": {{2, 3}},
		"seal": {}, "store": {{2, 3}, {6, 6}}, "keyfile": {{1, 12}}, "participant": {{2, 13}},
		"score": {}, "coordinator": {{2, 10}}, "blame": {{2, 10}}, "session": {{1, 17}}, "roast": {{1, 17}},
		"dkg": {{2, 9}}, "refresh": {{2, 9}}, "derive": {{2, 15}}, "policy": {{2, 5}},
		"chain": {{3, 3}, {5, 5}}, "history": {{1, 19}}, "engine": {{1, 26}}, "console": {{1, 27}},
	}
}

// maySee: may the layer call the project's package of that name?
func maySee(layer, other string) bool {
	stage := slices.Index(layers(), other) + 1
	if other == "api" {
		return true
	}
	return stage > 0 && slices.ContainsFunc(below()[layer], func(span [2]int) bool { return span[0] <= stage && stage <= span[1] })
}

type source struct {
	layer, path string
	text        []byte
	tree        *ast.File
	places      *token.FileSet
}

// sources are the files of all layers' packages that are no tests.
func sources(t *testing.T) []source {
	var out []source
	for _, layer := range layers() {
		files, err := os.ReadDir(filepath.Join(root, layer))
		if err != nil {
			t.Fatal(err)
		}
		for _, f := range files {
			if strings.HasSuffix(f.Name(), "_test.go") {
				continue
			}
			path := filepath.Join(root, layer, f.Name())
			if f.IsDir() || filepath.Ext(path) != ".go" {
				t.Fatalf("%s: only Go files may be there", path)
			}
			out = append(out, read(t, layer, path))
		}
	}
	return out
}

func read(t *testing.T, layer, path string) source {
	text, err := os.ReadFile(path)
	if err != nil {
		t.Fatal(err)
	}
	places := token.NewFileSet()
	tree, err := parser.ParseFile(places, path, text, parser.ParseComments)
	if err != nil {
		t.Fatal(err)
	}
	return source{layer, path, text, tree, places}
}

func TestImports(t *testing.T) {
	for _, s := range sources(t) {
		for _, i := range s.tree.Imports {
			path, _ := strconv.Unquote(i.Path.Value)
			if other, own := strings.CutPrefix(path, "rime/"); own && !maySee(s.layer, other) {
				t.Errorf("%s: layer %s may not call %s", s.path, s.layer, other)
			} else if !own && !slices.Contains(library(), path) {
				t.Errorf("%s: %s may not be imported", s.path, path)
			}
		}
	}
}

func TestNoDirectives(t *testing.T) {
	for _, s := range sources(t) {
		for _, group := range s.tree.Comments {
			for _, c := range group.List {
				if strings.HasPrefix(c.Text, "//go:") || strings.HasPrefix(c.Text, "// +build") {
					t.Errorf("%s: %s", s.path, c.Text)
				}
			}
		}
	}
}

func TestFunctionsAreShort(t *testing.T) {
	for _, s := range sources(t) {
		for _, d := range s.tree.Decls {
			f, ok := d.(*ast.FuncDecl)
			if !ok {
				continue
			}
			lines := s.places.Position(f.End()).Line - s.places.Position(f.Pos()).Line + 1
			if lines > longest {
				t.Errorf("%s: %s has %d lines", s.path, f.Name.Name, lines)
			}
		}
	}
}

func TestLayout(t *testing.T) {
	for _, s := range sources(t) {
		laid, err := format.Source(s.text)
		if err != nil || !bytes.Equal(laid, s.text) {
			t.Errorf("%s is not in gofmt's layout", s.path)
		}
	}
}
