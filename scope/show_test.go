package scope_test

import (
	"fmt"
	"strings"
	"testing"

	"manorboy/api"
	"manorboy/parse"
	"manorboy/scope"
)

// statement returns the statement of a text.
func statement(t *testing.T, text string) api.Stmt {
	t.Helper()
	s, e, at := parse.ParseStmt(text)
	if e != api.OK {
		t.Fatalf("%q: error %d at %d", text, e, at)
	}
	return s
}

// showPlace shows a place as its kind, its number and its index; an unknown one as a question mark.
func showPlace(p api.Place) string {
	if p == (api.Place{}) {
		return "?"
	}
	kinds := []string{"-", "standard", "label", "var", "array", "switch", "proc", "formal"}
	return fmt.Sprintf("%s%d.%d", kinds[p.Kind], p.Node, p.At)
}

func showPlaces(list []api.Place) string {
	var words []string
	for _, p := range list {
		words = append(words, showPlace(p))
	}
	return strings.Join(words, " ")
}

func showUses(list []api.Use) string {
	var words []string
	for _, u := range list {
		words = append(words, fmt.Sprintf("%d:%s=%s", u.Node, u.Name, showPlace(u.Place)))
	}
	return strings.Join(words, " ")
}

func showProblems(list []api.Problem) string {
	kinds := []string{"-", "Twice", "Unknown", "Bound", "Kind", "Count"}
	var words []string
	for _, p := range list {
		words = append(words, fmt.Sprintf("%d:%s:%s", p.Node, kinds[p.Kind], p.Name))
	}
	return strings.Join(words, " ")
}

// The following functions return what a function of the package returns for a valid statement and a part of it.

func uses(t *testing.T, s api.Stmt) []api.Use {
	t.Helper()
	list, e := scope.Uses(s)
	wantOK(t, e)
	return list
}

func places(t *testing.T, s api.Stmt) []api.Place {
	t.Helper()
	list, e := scope.Places(s)
	wantOK(t, e)
	return list
}

func nameOf(t *testing.T, s api.Stmt, p api.Place) string {
	t.Helper()
	name, e := scope.Name(s, p)
	wantOK(t, e)
	return name
}

func usesOf(t *testing.T, s api.Stmt, p api.Place) []int {
	t.Helper()
	list, e := scope.UsesOf(s, p)
	wantOK(t, e)
	return list
}

func visible(t *testing.T, s api.Stmt, node int) []api.Place {
	t.Helper()
	list, e := scope.Visible(s, node)
	wantOK(t, e)
	return list
}

// lookup returns the zero place for what is unknown.
func lookup(t *testing.T, s api.Stmt, node int, name string) api.Place {
	t.Helper()
	p, e := scope.Lookup(s, node, name)
	if (e == api.ErrNone) != (p == api.Place{}) || e != api.OK && e != api.ErrNone {
		t.Fatalf("%s at %d is %v, error %d", name, node, p, e)
	}
	return p
}

func free(t *testing.T, s api.Stmt) []string {
	t.Helper()
	list, e := scope.Free(s)
	wantOK(t, e)
	return list
}

func problems(t *testing.T, s api.Stmt) []api.Problem {
	t.Helper()
	list, e := scope.Check(s)
	wantOK(t, e)
	return list
}

func enclosing(t *testing.T, s api.Stmt, node int) int {
	t.Helper()
	number, e := scope.Enclosing(s, node)
	wantOK(t, e)
	return number
}

func level(t *testing.T, s api.Stmt, node int) int {
	t.Helper()
	number, e := scope.Level(s, node)
	wantOK(t, e)
	return number
}

func wantOK(t *testing.T, e api.Errno) {
	t.Helper()
	if e != api.OK {
		t.Fatalf("error %d", e)
	}
}
