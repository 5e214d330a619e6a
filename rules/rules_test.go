// Package rules has tests alone: the source of every layer keeps to the map of the document and to the rules of the language.
package rules

import (
	"bytes"
	"go/ast"
	"go/format"
	"go/parser"
	"go/token"
	"os"
	"path/filepath"
	"slices"
	"strconv"
	"strings"
	"testing"
)

// leans tells of each layer the layers that it may call, and those whose types stand in its signatures.
var leans = map[string]string{
	"crc": "", "fields": "", "names": "", "layout": "names", "topo": "layout", "conflict": "layout topo", "bits": "",
	"masks": "topo conflict bits", "inputs": "", "ilxa": "topo conflict inputs", "ilxb": "bits masks inputs", "vote": "",
	"frame": "crc fields", "disk": "", "wal": "crc fields disk", "ckpt": "wal disk", "lockstore": "frame ckpt disk",
	"link": "frame", "exec": "", "agree": "inputs", "channel": "inputs ilxa ilxb vote agree",
	"pair": "topo inputs ilxa vote lockstore agree channel disk", "lease": "", "relay": "frame", "repl": "fields frame",
	"switchover": "lease", "platform": "frame disk link exec pair lease relay repl switchover", "model": "ilxa",
	"safety": "conflict inputs", "bound": "platform", "console": "crc layout platform bound",
}

// own are packages beside the layers.
var own = []string{"api", "copies"}

// library are the library's packages of which the language has something.
const library = " bytes cmp container/heap errors iter maps math math/bits slices sort strconv strings sync sync/atomic unicode unicode/utf8 "

type source struct {
	folder, name string
	text         []byte
	file         *ast.File
	set          *token.FileSet
}

func sources(t *testing.T) []source {
	var all []source
	paths, err := filepath.Glob("../*/*.go")
	if err != nil {
		t.Fatal(err)
	}
	for _, path := range paths {
		folder := filepath.Base(filepath.Dir(path))
		if _, layer := leans[folder]; !layer && !slices.Contains(own, folder) || strings.HasSuffix(path, "_test.go") {
			continue // packages that are laid beside these for a check are not the program's
		}
		text, err := os.ReadFile(path)
		if err != nil {
			t.Fatal(err)
		}
		set := token.NewFileSet()
		file, err := parser.ParseFile(set, path, text, parser.ParseComments)
		if err != nil {
			t.Fatal(err)
		}
		all = append(all, source{folder, path, text, file, set})
	}
	if len(all) < len(leans) {
		t.Fatal("there are layers whose source is missing")
	}
	return all
}

func TestImports(t *testing.T) {
	for _, s := range sources(t) {
		for _, i := range s.file.Imports {
			path, _ := strconv.Unquote(i.Path.Value)
			layer, ours := strings.CutPrefix(path, "semaphore/")
			switch {
			case ours && slices.Contains(own, layer):
			case ours && slices.Contains(strings.Fields(leans[s.folder]), layer):
			case !ours && strings.Contains(library, " "+path+" "):
			default:
				t.Errorf("%s imports %s", s.name, path)
			}
		}
	}
}

func TestLayout(t *testing.T) {
	for _, s := range sources(t) {
		if neat, err := format.Source(s.text); err != nil || !bytes.Equal(neat, s.text) {
			t.Errorf("%s has not gofmt's layout", s.name)
		}
		if bytes.Contains(s.text, []byte("//"+"go:")) || bytes.Contains(s.text, []byte("//"+" +build")) {
			t.Errorf("%s has a line for the compiler", s.name)
		}
	}
}

func TestFunctionsAreSmall(t *testing.T) {
	for _, s := range sources(t) {
		for _, d := range s.file.Decls {
			if f, ok := d.(*ast.FuncDecl); ok {
				if n := s.set.Position(f.End()).Line - s.set.Position(f.Pos()).Line + 1; n > 60 {
					t.Errorf("%s: %s has %d lines", s.name, f.Name.Name, n)
				}
			}
		}
	}
}

func TestNothingAtPackageLevelButConstantsAndTables(t *testing.T) {
	for _, s := range sources(t) {
		for _, d := range s.file.Decls {
			g, ok := d.(*ast.GenDecl)
			if !ok || g.Tok != token.VAR {
				continue
			}
			for _, spec := range g.Specs {
				for _, v := range spec.(*ast.ValueSpec).Values {
					if c, ok := v.(*ast.CompositeLit); ok {
						if _, ok := c.Type.(*ast.ArrayType); ok {
							continue
						}
					}
					t.Errorf("%s: a variable at package level", s.name)
				}
				if len(spec.(*ast.ValueSpec).Values) == 0 {
					t.Errorf("%s: a variable without a value", s.name)
				}
			}
		}
	}
}
