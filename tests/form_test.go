package tests

import (
	"bytes"
	"go/ast"
	"go/format"
	"go/parser"
	"go/token"
	"os"
	"path/filepath"
	"strings"
	"testing"
)

// mayImport has what the program may import of the library.
const mayImport = " bytes cmp container/heap errors iter maps math math/bits slices sort strconv strings sync sync/atomic unicode unicode/utf8 "

const mostLines = 60

func eachFile(t *testing.T, look func(name string, text []byte, set *token.FileSet, f *ast.File)) {
	t.Helper()
	names, err := filepath.Glob("../impl/*")
	if err != nil || len(names) == 0 {
		t.Fatal("no file of the program", err)
	}
	for _, name := range names {
		text, err := os.ReadFile(name)
		if err != nil {
			t.Fatal(err)
		}
		set := token.NewFileSet()
		f, err := parser.ParseFile(set, name, text, parser.ParseComments)
		if err != nil {
			t.Fatal(err)
		}
		look(name, text, set, f)
	}
}

func TestLayout(t *testing.T) {
	eachFile(t, func(name string, text []byte, _ *token.FileSet, _ *ast.File) {
		if laid, err := format.Source(text); err != nil || !bytes.Equal(laid, text) {
			t.Errorf("%s has not gofmt's layout (%v)", name, err)
		}
	})
}

func TestImportsAndLines(t *testing.T) {
	eachFile(t, func(name string, _ []byte, _ *token.FileSet, f *ast.File) {
		for _, i := range f.Imports {
			if path := strings.Trim(i.Path.Value, "\""); !strings.Contains(mayImport, " "+path+" ") {
				t.Errorf("%s imports %s", name, path)
			}
		}
		for _, group := range f.Comments {
			for _, c := range group.List {
				if strings.HasPrefix(c.Text, "//go:") || strings.HasPrefix(c.Text, "// +build") {
					t.Errorf("%s has the line %s", name, c.Text)
				}
			}
		}
	})
}

func TestFunctionsAreSmall(t *testing.T) {
	eachFile(t, func(name string, _ []byte, set *token.FileSet, f *ast.File) {
		for _, d := range f.Decls {
			if x, ok := d.(*ast.FuncDecl); ok {
				if n := set.Position(x.End()).Line - set.Position(x.Pos()).Line + 1; n > mostLines {
					t.Errorf("%s: %s has %d lines", name, x.Name.Name, n)
				}
			}
		}
	})
}

func TestMemoryIsReadByConversion(t *testing.T) {
	found := 0
	eachFile(t, func(name string, _ []byte, _ *token.FileSet, f *ast.File) {
		if filepath.Base(name) != "l01_memory.go" {
			return
		}
		ast.Inspect(f, func(n ast.Node) bool {
			if x, ok := n.(*ast.CallExpr); ok && isArrayOfEight(x.Fun) && len(x.Args) == 1 {
				if _, ok := x.Args[0].(*ast.SliceExpr); ok {
					found++
				}
			}
			return true
		})
	})
	if found == 0 {
		t.Error("no slice is made an array of eight bytes by conversion")
	}
}

func isArrayOfEight(e ast.Expr) bool {
	a, ok := e.(*ast.ArrayType)
	if !ok {
		return false
	}
	size, ok := a.Len.(*ast.BasicLit)
	of, named := a.Elt.(*ast.Ident)
	return ok && named && size.Value == "8" && of.Name == "byte"
}

// The rows of the instructions stand in a literal inside a function, and an Inst is a key of a map.
func TestDecodeHasItsRowsInAFunction(t *testing.T) {
	rows, keys := 0, 0
	eachFile(t, func(name string, _ []byte, _ *token.FileSet, f *ast.File) {
		if filepath.Base(name) != "l02_decode.go" {
			return
		}
		for _, d := range f.Decls {
			_, inside := d.(*ast.FuncDecl)
			ast.Inspect(d, func(n ast.Node) bool {
				switch x := n.(type) {
				case *ast.CompositeLit:
					if a, ok := x.Type.(*ast.ArrayType); ok && inside && a.Len != nil && len(x.Elts) == 98 {
						rows++
					}
				case *ast.MapType:
					if key, ok := x.Key.(*ast.Ident); ok && inside && key.Name == "Inst" {
						keys++
					}
				}
				return true
			})
		}
	})
	if rows != 1 || keys == 0 {
		t.Errorf("%d arrays of the 98 rows, %d maps with an Inst as key", rows, keys)
	}
}

// The Ops of arithmetic are functions: fields of structs, which stand in an array of their own each.
func TestAluHasItsOpsInArrays(t *testing.T) {
	fields, arrays := map[string]int{}, 0
	eachFile(t, func(name string, _ []byte, _ *token.FileSet, f *ast.File) {
		if filepath.Base(name) != "l03_alu.go" {
			return
		}
		ast.Inspect(f, func(n ast.Node) bool {
			x, ok := n.(*ast.TypeSpec)
			if !ok {
				return true
			}
			if s, ok := x.Type.(*ast.StructType); ok {
				for _, field := range s.Fields.List {
					if _, ok := field.Type.(*ast.FuncType); ok {
						fields[x.Name.Name]++
					}
				}
			}
			return true
		})
		ast.Inspect(f, func(n ast.Node) bool {
			if x, ok := n.(*ast.CompositeLit); ok {
				if a, ok := x.Type.(*ast.ArrayType); ok && a.Len != nil {
					if of, ok := a.Elt.(*ast.Ident); ok && fields[of.Name] > 0 {
						arrays++
					}
				}
			}
			return true
		})
	})
	if arrays != 3 {
		t.Errorf("%d arrays of structs with functions in their fields, want those of Alu, Branch and Amo", arrays)
	}
}

// interfacesOf are the interfaces with methods that a file declares.
func interfacesOf(f *ast.File) map[string]int {
	out := map[string]int{}
	ast.Inspect(f, func(n ast.Node) bool {
		if x, ok := n.(*ast.TypeSpec); ok {
			if i, ok := x.Type.(*ast.InterfaceType); ok {
				out[x.Name.Name] = len(i.Methods.List)
			}
		}
		return true
	})
	return out
}

// A state register stands behind an interface, and its view is asked for by an assertion to another one.
func TestCsrsAreBehindAnInterface(t *testing.T) {
	rows, views := 0, 0
	eachFile(t, func(name string, _ []byte, _ *token.FileSet, f *ast.File) {
		if filepath.Base(name) != "l04_csr.go" {
			return
		}
		own := interfacesOf(f)
		ast.Inspect(f, func(n ast.Node) bool {
			switch x := n.(type) {
			case *ast.Field:
				if of, ok := x.Type.(*ast.Ident); ok && own[of.Name] > 0 {
					rows++
				}
			case *ast.TypeAssertExpr:
				if to, ok := x.Type.(*ast.Ident); ok && to.Name == "viewed" && own["viewed"] > 0 {
					views++
				}
			}
			return true
		})
	})
	if rows == 0 || views == 0 {
		t.Errorf("%d fields of an interface of its own, %d assertions that ask for a view", rows, views)
	}
}

// iotaNames are the constants of a file whose group begins with iota.
func iotaNames(f *ast.File) map[string]int {
	out := map[string]int{}
	for _, d := range f.Decls {
		g, ok := d.(*ast.GenDecl)
		if !ok || g.Tok != token.CONST || len(g.Specs) == 0 {
			continue
		}
		first := g.Specs[0].(*ast.ValueSpec)
		if len(first.Values) != 1 {
			continue
		}
		if x, ok := first.Values[0].(*ast.Ident); !ok || x.Name != "iota" {
			continue
		}
		for place, s := range g.Specs {
			out[s.(*ast.ValueSpec).Names[0].Name] = place
		}
	}
	return out
}

// The priorities of the interrupts are constants by iota, by which the numbers stand in an array.
func TestPrioritiesAreByIota(t *testing.T) {
	arrays := 0
	eachFile(t, func(name string, _ []byte, _ *token.FileSet, f *ast.File) {
		if filepath.Base(name) != "l05_trap.go" {
			return
		}
		ranks := iotaNames(f)
		ast.Inspect(f, func(n ast.Node) bool {
			x, ok := n.(*ast.CompositeLit)
			if !ok {
				return true
			}
			a, ok := x.Type.(*ast.ArrayType)
			if !ok || a.Len == nil || len(x.Elts) != 6 {
				return true
			}
			seen := map[int]bool{}
			for _, e := range x.Elts {
				if pair, ok := e.(*ast.KeyValueExpr); ok {
					if key, ok := pair.Key.(*ast.Ident); ok {
						if rank, ok := ranks[key.Name]; ok {
							seen[rank] = true
						}
					}
				}
			}
			if len(seen) == 6 {
				arrays++
			}
			return true
		})
	})
	if arrays != 1 {
		t.Errorf("%d arrays of the six interrupts by constants of iota", arrays)
	}
}

// sequencesOf are the functions of a file that answer one that yields.
func sequencesOf(f *ast.File) map[string]int {
	out := map[string]int{}
	for _, d := range f.Decls {
		x, ok := d.(*ast.FuncDecl)
		if !ok {
			continue
		}
		ast.Inspect(x, func(n ast.Node) bool {
			if c, ok := n.(*ast.CallExpr); ok {
				if by, ok := c.Fun.(*ast.Ident); ok && by.Name == "yield" {
					out[x.Name.Name]++
				}
			}
			return true
		})
	}
	return out
}

// The regions are gone through by a range over a function.
func TestRegionsAreRangedOver(t *testing.T) {
	ranges := 0
	eachFile(t, func(name string, _ []byte, _ *token.FileSet, f *ast.File) {
		if filepath.Base(name) != "l06_protect.go" {
			return
		}
		sequences := sequencesOf(f)
		ast.Inspect(f, func(n ast.Node) bool {
			if x, ok := n.(*ast.RangeStmt); ok {
				if c, ok := x.X.(*ast.CallExpr); ok {
					if of, ok := c.Fun.(*ast.Ident); ok && sequences[of.Name] > 0 {
						ranges++
					}
				}
			}
			return true
		})
	})
	if ranges == 0 {
		t.Error("no range over a function that yields the regions")
	}
}

// callsOf counts the calls of a name in a piece of the program.
func callsOf(within ast.Node, name string) int {
	n := 0
	ast.Inspect(within, func(x ast.Node) bool {
		if c, ok := x.(*ast.CallExpr); ok {
			if by, ok := c.Fun.(*ast.Ident); ok && by.Name == name {
				n++
			}
		}
		return true
	})
	return n
}

// A walk gives up by panic, inside; Walk itself recovers, in a function literal that it defers.
func TestFaultsAreRecoveredAtTheFace(t *testing.T) {
	panics, recovers := 0, 0
	eachFile(t, func(name string, _ []byte, _ *token.FileSet, f *ast.File) {
		if filepath.Base(name) != "l07_walk.go" {
			return
		}
		for _, d := range f.Decls {
			x, ok := d.(*ast.FuncDecl)
			if !ok {
				continue
			}
			if !x.Name.IsExported() {
				panics += callsOf(x, "panic")
			}
			if x.Name.Name != "Walk" {
				continue
			}
			for _, s := range x.Body.List {
				if later, ok := s.(*ast.DeferStmt); ok {
					if by, ok := later.Call.Fun.(*ast.FuncLit); ok {
						recovers += callsOf(by, "recover")
					}
				}
			}
		}
	})
	if panics == 0 || recovers != 1 {
		t.Errorf("%d panics inside, %d recovers in what Walk defers", panics, recovers)
	}
}

// rangesOfChannels counts the ranges over a parameter that is a channel.
func rangesOfChannels(x *ast.FuncDecl) int {
	channels, n := map[string]int{}, 0
	for _, p := range x.Type.Params.List {
		if _, ok := p.Type.(*ast.ChanType); ok {
			for _, name := range p.Names {
				channels[name.Name]++
			}
		}
	}
	ast.Inspect(x, func(y ast.Node) bool {
		if r, ok := y.(*ast.RangeStmt); ok {
			if over, ok := r.X.(*ast.Ident); ok {
				n += channels[over.Name]
			}
		}
		return true
	})
	return n
}

// Bytes come over a channel that is sent to, closed and received from by a range; nobody else runs meanwhile.
func TestBytesComeOverAChannel(t *testing.T) {
	sends, closes, ranges, starts := 0, 0, 0, 0
	eachFile(t, func(name string, _ []byte, _ *token.FileSet, f *ast.File) {
		if filepath.Base(name) != "l08_device.go" {
			return
		}
		for _, d := range f.Decls {
			if x, ok := d.(*ast.FuncDecl); ok {
				closes += callsOf(x, "close")
				ranges += rangesOfChannels(x)
			}
		}
		ast.Inspect(f, func(n ast.Node) bool {
			switch n.(type) {
			case *ast.SendStmt:
				sends++
			case *ast.GoStmt:
				starts++
			}
			return true
		})
	})
	if sends == 0 || closes == 0 || ranges == 0 || starts != 0 {
		t.Errorf("%d sends, %d closes, %d ranges over a channel, %d goroutines", sends, closes, ranges, starts)
	}
}

// receiverOf is the name of a method's receiver and that of its type; both are empty of a function.
func receiverOf(x *ast.FuncDecl) (string, string) {
	if x.Recv == nil || len(x.Recv.List[0].Names) == 0 {
		return "", ""
	}
	of := x.Recv.List[0].Type
	if star, ok := of.(*ast.StarExpr); ok {
		of = star.X
	}
	name, _ := of.(*ast.Ident)
	return x.Recv.List[0].Names[0].Name, name.Name
}

// methodsOf are the methods of a type of the program.
func methodsOf(t *testing.T, name string) map[string]int {
	out := map[string]int{}
	eachFile(t, func(_ string, _ []byte, _ *token.FileSet, f *ast.File) {
		for _, d := range f.Decls {
			if x, ok := d.(*ast.FuncDecl); ok {
				if _, of := receiverOf(x); of == name {
					out[x.Name.Name]++
				}
			}
		}
	})
	return out
}

// embeds tells whether a file declares a struct with a field of a type that has no other name.
func embeds(f *ast.File, name, inner string) bool {
	found := false
	ast.Inspect(f, func(n ast.Node) bool {
		x, ok := n.(*ast.TypeSpec)
		if !ok || x.Name.Name != name {
			return true
		}
		if s, ok := x.Type.(*ast.StructType); ok {
			for _, field := range s.Fields.List {
				of, named := field.Type.(*ast.Ident)
				found = found || named && of.Name == inner && len(field.Names) == 0
			}
		}
		return true
	})
	return found
}

// A machine embeds its devices, and calls their methods as its own.
func TestAMachineEmbedsItsDevices(t *testing.T) {
	embedded, calls := false, 0
	own, lent := methodsOf(t, "Machine"), methodsOf(t, "Dev")
	eachFile(t, func(name string, _ []byte, _ *token.FileSet, f *ast.File) {
		if filepath.Base(name) != "l09_bus.go" {
			return
		}
		embedded = embeds(f, "Machine", "Dev")
		for _, d := range f.Decls {
			x, ok := d.(*ast.FuncDecl)
			if !ok {
				continue
			}
			by, of := receiverOf(x)
			ast.Inspect(x, func(n ast.Node) bool {
				if s, ok := n.(*ast.SelectorExpr); ok && of == "Machine" {
					if on, ok := s.X.(*ast.Ident); ok && on.Name == by && lent[s.Sel.Name] > 0 && own[s.Sel.Name] == 0 {
						calls++
					}
				}
				return true
			})
		}
	})
	if !embedded || calls == 0 {
		t.Errorf("embedded: %v, %d uses of a method that is the devices'", embedded, calls)
	}
}

// structsOf are the structs that a file declares.
func structsOf(f *ast.File) map[string]int {
	out := map[string]int{}
	ast.Inspect(f, func(n ast.Node) bool {
		if x, ok := n.(*ast.TypeSpec); ok {
			if _, ok := x.Type.(*ast.StructType); ok {
				out[x.Name.Name]++
			}
		}
		return true
	})
	return out
}

// A slot's key is a struct that is a key of a map, and what Drop leaves out is cleared.
func TestSlotsHaveAKeyAndAreCleared(t *testing.T) {
	keys, clears := 0, 0
	eachFile(t, func(name string, _ []byte, _ *token.FileSet, f *ast.File) {
		if filepath.Base(name) != "l10_cache.go" {
			return
		}
		own := structsOf(f)
		ast.Inspect(f, func(n ast.Node) bool {
			if x, ok := n.(*ast.MapType); ok {
				if key, ok := x.Key.(*ast.Ident); ok {
					keys += own[key.Name]
				}
			}
			return true
		})
		for _, d := range f.Decls {
			if x, ok := d.(*ast.FuncDecl); ok && x.Name.Name == "Drop" {
				clears += callsOf(x, "clear")
			}
		}
	})
	if keys == 0 || clears == 0 {
		t.Errorf("%d maps with a struct of its own as key, %d clears in Drop", keys, clears)
	}
}

// switchesOf counts the switches of a piece of the program in which a case goes on with the next one.
func switchesOf(within ast.Node) int {
	n := 0
	ast.Inspect(within, func(x ast.Node) bool {
		if c, ok := x.(*ast.CaseClause); ok && len(c.Body) > 0 {
			if last, ok := c.Body[len(c.Body)-1].(*ast.BranchStmt); ok && last.Tok == token.FALLTHROUGH {
				n++
			}
		}
		return true
	})
	return n
}

// A step has switches with fallthrough, tells forms by a type switch, and asserts what must hold: such an assertion has one value, and would panic. None of it stands in what the document lists.
func TestStepsTellFormsByTypes(t *testing.T) {
	throughs, types, asserts := 0, 0, 0
	eachFile(t, func(name string, _ []byte, _ *token.FileSet, f *ast.File) {
		if filepath.Base(name) != "l11_step.go" {
			return
		}
		for _, d := range f.Decls {
			x, ok := d.(*ast.FuncDecl)
			if !ok || x.Name.IsExported() {
				continue
			}
			throughs += switchesOf(x)
			two := map[ast.Node]bool{}
			ast.Inspect(x, func(n ast.Node) bool {
				switch y := n.(type) {
				case *ast.AssignStmt:
					if len(y.Lhs) == 2 && len(y.Rhs) == 1 {
						two[y.Rhs[0]] = true
					}
				case *ast.TypeSwitchStmt:
					if len(y.Body.List) > 5 {
						types++
					}
				case *ast.TypeAssertExpr:
					if y.Type != nil && !two[y] {
						asserts++
					}
				}
				return true
			})
		}
	})
	if throughs == 0 || types == 0 || asserts == 0 {
		t.Errorf("%d cases with fallthrough, %d type switches, %d assertions of one value", throughs, types, asserts)
	}
}

// pointerTo is the name of the type that (*T) points to, empty of what is none.
func pointerTo(e ast.Expr) string {
	if p, ok := e.(*ast.ParenExpr); ok {
		if star, ok := p.X.(*ast.StarExpr); ok {
			if of, ok := star.X.(*ast.Ident); ok {
				return of.Name
			}
		}
	}
	return ""
}

// The events are method expressions in a table inside a function.
func TestEventsAreMethodExpressions(t *testing.T) {
	rows, methods := 0, methodsOf(t, "player")
	eachFile(t, func(name string, _ []byte, _ *token.FileSet, f *ast.File) {
		if filepath.Base(name) != "l12_run.go" {
			return
		}
		for _, d := range f.Decls {
			x, ok := d.(*ast.FuncDecl)
			if !ok {
				continue
			}
			ast.Inspect(x, func(n ast.Node) bool {
				row, ok := n.(*ast.CompositeLit)
				if !ok {
					return true
				}
				for _, e := range row.Elts {
					if s, ok := e.(*ast.SelectorExpr); ok && pointerTo(s.X) == "player" && methods[s.Sel.Name] > 0 {
						rows++
					}
				}
				return true
			})
		}
	})
	if rows != 3 {
		t.Errorf("%d rows with a method expression, want one for each kind of event", rows)
	}
}

// Both machines, the one that keeps translations and the one that keeps none, run as goroutines that a WaitGroup joins.
func TestBothMachinesRunAsGoroutines(t *testing.T) {
	groups, starts, waits := 0, 0, 0
	eachFile(t, func(name string, _ []byte, _ *token.FileSet, f *ast.File) {
		if filepath.Base(name) != "l12_run.go" {
			return
		}
		for _, d := range f.Decls {
			x, ok := d.(*ast.FuncDecl)
			if !ok || x.Name.Name != "Fast" {
				continue
			}
			ast.Inspect(x, func(n ast.Node) bool {
				if s, ok := n.(*ast.SelectorExpr); ok {
					switch s.Sel.Name {
					case "WaitGroup":
						groups++
					case "Go":
						starts++
					case "Wait":
						waits++
					}
				}
				return true
			})
		}
	})
	if groups != 1 || starts != 2 || waits != 1 {
		t.Errorf("%d groups, %d goroutines, %d waits", groups, starts, waits)
	}
}

// labelsOf are the labels of a function, each with how many jumps go there.
func labelsOf(x *ast.FuncDecl) map[string]int {
	out := map[string]int{}
	ast.Inspect(x, func(n ast.Node) bool {
		switch y := n.(type) {
		case *ast.LabeledStmt:
			out[y.Label.Name] += 0
		case *ast.BranchStmt:
			if y.Tok == token.GOTO {
				out[y.Label.Name]++
			}
		}
		return true
	})
	return out
}

// A line is read as runes, by states that are labels, to each of which a jump goes; names are keys of a map.
func TestLinesAreReadByStates(t *testing.T) {
	states, runes, names := 0, 0, 0
	eachFile(t, func(name string, _ []byte, _ *token.FileSet, f *ast.File) {
		if filepath.Base(name) != "l13_assemble.go" {
			return
		}
		for _, d := range f.Decls {
			x, ok := d.(*ast.FuncDecl)
			if !ok {
				continue
			}
			for label, jumps := range labelsOf(x) {
				if jumps == 0 {
					t.Errorf("%s: nobody goes to %s", x.Name.Name, label)
				}
				states++
			}
			ast.Inspect(x, func(n ast.Node) bool {
				switch y := n.(type) {
				case *ast.ArrayType:
					if of, ok := y.Elt.(*ast.Ident); ok && of.Name == "rune" {
						runes++
					}
				case *ast.MapType:
					if key, ok := y.Key.(*ast.Ident); ok && key.Name == "string" {
						names++
					}
				}
				return true
			})
		}
	})
	if states < 3 || runes == 0 || names == 0 {
		t.Errorf("%d states, %d lists of runes, %d maps with names as keys", states, runes, names)
	}
}

// closuresOf counts the function literals that are values of a map that is written out, by a text as key.
func closuresOf(x *ast.CompositeLit) int {
	n := 0
	if _, ok := x.Type.(*ast.MapType); !ok {
		return n
	}
	for _, e := range x.Elts {
		if pair, ok := e.(*ast.KeyValueExpr); ok {
			_, text := pair.Key.(*ast.BasicLit)
			_, closure := pair.Value.(*ast.FuncLit)
			if text && closure {
				n++
			}
		}
	}
	return n
}

// isVariadic tells whether a function takes as many as there are, at its end.
func isVariadic(x *ast.FuncDecl) bool {
	list := x.Type.Params.List
	if len(list) == 0 {
		return false
	}
	_, ok := list[len(list)-1].Type.(*ast.Ellipsis)
	return ok
}

// Each of the eight commands is a closure in a map, and every answer is told by a variadic helper: nobody else adds to them.
func TestCommandsAreClosures(t *testing.T) {
	closures, helpers, adders := 0, 0, 0
	eachFile(t, func(name string, _ []byte, _ *token.FileSet, f *ast.File) {
		if filepath.Base(name) != "l14_bench.go" {
			return
		}
		for _, d := range f.Decls {
			x, ok := d.(*ast.FuncDecl)
			if !ok {
				continue
			}
			adds := 0
			ast.Inspect(x, func(n ast.Node) bool {
				switch y := n.(type) {
				case *ast.CompositeLit:
					closures += closuresOf(y)
				case *ast.AssignStmt:
					for _, to := range y.Lhs {
						if s, ok := to.(*ast.SelectorExpr); ok && s.Sel.Name == "answers" {
							adds++
						}
					}
				}
				return true
			})
			if adds > 0 && isVariadic(x) {
				helpers++
			} else if adds > 0 {
				adders++
			}
		}
	})
	if closures != 8 || helpers != 1 || adders != 0 {
		t.Errorf("%d commands are closures in a map, %d variadic helpers add to the answers, and %d others", closures, helpers, adders)
	}
}

// At package level stand no maps, no functions and nothing without a value of its own.
func TestPackageVariables(t *testing.T) {
	eachFile(t, func(name string, _ []byte, _ *token.FileSet, f *ast.File) {
		for _, d := range f.Decls {
			g, ok := d.(*ast.GenDecl)
			if !ok || g.Tok != token.VAR {
				continue
			}
			for _, s := range g.Specs {
				v := s.(*ast.ValueSpec)
				if len(v.Values) != len(v.Names) {
					t.Errorf("%s: %s has no value of its own", name, v.Names[0])
				}
				ast.Inspect(v, func(n ast.Node) bool {
					switch n.(type) {
					case *ast.MapType, *ast.FuncLit, *ast.FuncType:
						t.Errorf("%s: %s is a map or a function", name, v.Names[0])
					}
					return true
				})
			}
		}
	})
}
