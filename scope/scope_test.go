package scope_test

import (
	"fmt"
	"reflect"
	"slices"
	"strings"
	"testing"

	"manorboy/api"
	"manorboy/parse"
	"manorboy/scope"
	"manorboy/tree"
)

// example is the chapter's example.
const example = "begin integer n, i; real array a[1: n]; procedure p(x); l: a[x] := i; m: p(m); goto l; n := q end"

func TestPromise1Standard(t *testing.T) {
	want := []string{"outinteger", "outreal", "outboolean", "outstring", "inint", "abs", "sign", "entier"}
	list := scope.Standard()
	if !slices.Equal(list, want) {
		t.Errorf("Standard() = %v", list)
	}
	clear(list)
	if again := scope.Standard(); !slices.Equal(again, want) {
		t.Errorf("Standard() = %v after a change of what it returned", again)
	}
}

func TestPromise2Uses(t *testing.T) {
	for _, x := range []struct{ text, want string }{
		{example, "4:n=? 7:a=array2.0 8:x=formal5.0 9:i=var1.1 10:p=proc5.0 11:m=label10.0 13:l=? 15:n=var1.0 16:q=?"},
		{"", ""},
		{"x", "0:x=?"},
		{"outinteger(abs(inint))", "0:outinteger=standard-1.0 1:abs=standard-1.5 2:inint=standard-1.4"},
		{"begin outreal(x); outboolean(sign(1)); outstring(\"x\"); entier end", "1:outreal=standard-1.1 2:x=? 3:outboolean=standard-1.2 4:sign=standard-1.6 6:outstring=standard-1.3 8:entier=standard-1.7"},
		// The labels of the whole statement, and those of several statements of a list.
		{"a: b: goto b", "1:b=label0.1"},
		{"begin goto a; goto b; c: a: goto c; b: end", "2:a=label5.1 4:b=label7.0 6:c=label5.0"},
		// A label is known in its list and in all that is within it.
		{"begin a: begin if true then goto a else for i := 1 do goto a end; goto a end", "5:a=label1.0 7:i=? 11:a=label1.0 13:a=label1.0"},
		// What stands in a compound statement or in a block is unknown around it.
		{"begin begin a: end; goto a end", "4:a=?"},
		{"begin begin integer a; a: end; a := 1 end", "5:a=?"},
		// The statements of a conditional and of a for statement, and of a procedure, are lists of their own.
		{"if a then a: goto a else goto a", "1:a=? 3:a=label2.0 5:a=?"},
		{"if true then goto a else a: goto a", "3:a=? 5:a=label4.0"},
		{"for i := a, a step a until a, a while a do a: goto a", "1:i=? 3:a=? 5:a=? 6:a=? 7:a=? 9:a=? 10:a=? 12:a=label11.0"},
		{"begin procedure p; a: goto a; goto a end", "3:a=label2.0 5:a=?"},
		{"a: if true then a: goto a else goto a", "3:a=label2.0 5:a=label0.0"},
		// A block's declarations are known in all of them, wherever they are.
		{"begin procedure p; x := y; switch s := l; real x, y; l: p; goto s[1] end", "3:x=var7.0 4:y=var7.1 6:l=label8.0 8:p=proc1.0 10:s=switch5.0"},
		// Inner declarations hide outer ones.
		{"begin integer x; begin real x; x := 1 end; x := 1 end", "5:x=var3.0 8:x=var1.0"},
		{"begin integer x; begin x: goto x end; goto x end", "4:x=label3.0 6:x=var1.0"},
		{"begin integer abs; procedure p(sign); abs := sign; abs := sign end", "4:abs=var1.0 5:sign=formal2.0 7:abs=var1.0 8:sign=standard-1.6"},
		// A block ahead of its own labels, and a block's labels ahead of all within it.
		{"x: begin integer x; goto x end", "3:x=var1.0"},
		{"x: begin integer y; goto x end", "3:x=label0.0"},
		{"begin integer y; x: begin goto x end end", "4:x=label2.0"},
		// The first declaration of several counts; a block's labels are behind its names.
		{"begin integer x, x; boolean x; x: x := 1 end", "4:x=var1.0"},
		{"begin integer y; x: ; x: goto x end", "4:x=label2.0"},
		{"begin x: x: goto x; x: end", "2:x=label1.0"},
		// A procedure is known in itself; its formal parameters are known in its statement alone, its labels hide them.
		{"begin procedure p(x); x := p; p(x) end", "3:x=formal1.0 4:p=proc1.0 5:p=proc1.0 6:x=?"},
		{"begin procedure p(p); p(p); p end", "2:p=formal1.0 3:p=formal1.0 4:p=proc1.0"},
		{"begin procedure p(x); x: goto x; end", "3:x=label2.0"},
		{"begin procedure p(x, y); begin integer x; x := y end; end", "5:x=var3.0 6:y=formal1.1"},
		// Bounds know what is known around the block, also within an inner block, and nothing of the block.
		{"begin integer n; begin array n[n: n]; end; end", "4:n=var1.0 5:n=var1.0"},
		{"begin array a, b[a[b(l)]: p(q, 1)]; procedure p; ; l: end", "2:a=? 3:b=? 4:l=? 5:p=? 6:q=?"},
		{"begin integer n; procedure p(m); l: begin array a[n: m, p: l]; end; end", "5:n=var1.0 6:m=formal2.0 7:p=proc2.0 8:l=label3.0"},
		{"begin integer n; begin integer n; begin array a[n: 1]; integer n; end end end", "6:n=var3.0"},
		{"l: begin array a[l: abs]; l: end", "2:l=label0.0 3:abs=standard-1.5"},
		{"begin integer a; begin array a[1: 2]; begin array b[a[1]: 2]; end end end", "8:a=array3.0"},
		// Bounds are those of arrays: the elements of a switch are inside.
		{"begin integer n; begin integer n; switch s := n; end end", "5:n=var3.0"},
	} {
		if got := showUses(uses(t, statement(t, x.text))); got != x.want {
			t.Errorf("%s: uses %s, not %s", x.text, got, x.want)
		}
	}
}

func TestPromise3Places(t *testing.T) {
	for _, x := range []struct{ text, places, names string }{
		{example, "var1.0 var1.1 array2.0 proc5.0 formal5.0 label6.0 label10.0", "n i a p x l m"},
		{"", "", ""},
		{"a: b: a: ", "label0.0 label0.1 label0.2", "a b a"},
		{"begin own integer x, y, x; own real array a, b[1: 2]; switch s := x; boolean procedure f(y, x); l: ; l: m: if x then n: else o: end",
			"var1.0 var1.1 var1.2 array2.0 array2.1 switch5.0 proc7.0 formal7.0 formal7.1 label8.0 label9.0 label9.1 label11.0 label12.0", "x y x a b s f y x l l m n o"},
		{"for i := 1 do l: begin procedure p; ; m: end", "label4.0 proc5.0 label7.0", "l p m"},
	} {
		s := statement(t, x.text)
		list := places(t, s)
		var names []string
		for _, p := range list {
			names = append(names, nameOf(t, s, p))
		}
		if got := showPlaces(list); got != x.places || strings.Join(names, " ") != x.names {
			t.Errorf("%s: places %s of %v, not %s of %s", x.text, got, names, x.places, x.names)
		}
	}
}

func TestPromise3NameOfStandard(t *testing.T) {
	s := statement(t, "begin integer abs; abs: end")
	for at, name := range scope.Standard() {
		if got := nameOf(t, s, api.Place{Kind: api.BiStandard, Node: -1, At: at}); got != name {
			t.Errorf("standard procedure %d: %q", at, got)
		}
	}
}

// TestPromise3And4NoDeclaration asks for all places around a small statement: those without a declaration are refused.
func TestPromise3And4NoDeclaration(t *testing.T) {
	s := statement(t, "l: begin integer n; procedure p(x, y); m: o: q(n); p(1, 2) end")
	declared := places(t, s)
	for kind := -1; kind <= 9; kind++ {
		for node := -3; node <= tree.Size(s)+1; node++ {
			for at := -2; at <= 9; at++ {
				p := api.Place{Kind: kind, Node: node, At: at}
				if slices.Contains(declared, p) || kind == api.BiStandard && node == -1 && 0 <= at && at < 8 {
					continue
				}
				if name, e := scope.Name(s, p); e != api.ErrNone || name != "" {
					t.Errorf("Name of %v: %q, %d", p, name, e)
				}
				if list, e := scope.UsesOf(s, p); e != api.ErrNone || len(list) > 0 {
					t.Errorf("UsesOf %v: %v, %d", p, list, e)
				}
			}
		}
	}
}

func TestPromise4UsesOf(t *testing.T) {
	for _, x := range []struct {
		text  string
		place api.Place
		want  []int
	}{
		{example, api.Place{Kind: api.BiVar, Node: 1, At: 0}, []int{15}},
		{example, api.Place{Kind: api.BiVar, Node: 1, At: 1}, []int{9}},
		{example, api.Place{Kind: api.BiLabel, Node: 6, At: 0}, nil},
		{example, api.Place{Kind: api.BiLabel, Node: 10, At: 0}, []int{11}},
		{example, api.Place{Kind: api.BiStandard, Node: -1, At: 5}, nil},
		{"begin integer x, x; x := x + x end", api.Place{Kind: api.BiVar, Node: 1, At: 0}, []int{3, 5, 6}},
		{"begin integer x, x; x := x + x end", api.Place{Kind: api.BiVar, Node: 1, At: 1}, nil},
		{"begin x := abs(abs(x)); begin integer abs; abs end; abs end", api.Place{Kind: api.BiStandard, Node: -1, At: 5}, []int{3, 4, 9}},
		{"begin procedure p(p); p(p[p]); p(p) end", api.Place{Kind: api.BiProc, Node: 1, At: 0}, []int{5, 6}},
		{"begin procedure p(p); p(p[p]); p(p) end", api.Place{Kind: api.BiFormal, Node: 1, At: 0}, []int{2, 3, 4}},
	} {
		if got := usesOf(t, statement(t, x.text), x.place); !slices.Equal(got, x.want) {
			t.Errorf("%s: uses of %v are %v, not %v", x.text, x.place, got, x.want)
		}
	}
}

func TestPromise5Lookup(t *testing.T) {
	for _, x := range []struct {
		text string
		node int
		name string
		want string
	}{
		{example, 9, "l", "label6.0"},
		{example, 0, "abs", "standard-1.5"},
		{example, 0, "n", "?"},
		{example, 0, "m", "?"},
		{example, 1, "n", "var1.0"},
		{example, 1, "m", "label10.0"},
		{example, 2, "n", "var1.0"},
		{example, 3, "n", "?"},
		{example, 3, "abs", "standard-1.5"},
		{example, 5, "x", "?"},
		{example, 5, "l", "?"},
		{example, 6, "x", "formal5.0"},
		{example, 6, "l", "label6.0"},
		{example, 6, "m", "label10.0"},
		{example, 10, "l", "?"},
		{example, 16, "p", "proc5.0"},
		{example, 16, "unheard", "?"},
		{example, 16, "", "?"},
		{example, 16, "N", "?"},
		{example, 16, "begin", "?"},
		{"l: if true then m:", 0, "l", "label0.0"},
		{"l: if true then m:", 0, "m", "?"},
		{"l: if true then m:", 1, "l", "label0.0"},
		{"l: if true then m:", 1, "m", "?"},
		{"l: if true then m:", 2, "m", "label2.0"},
		// An element of the list of a for statement is a part, too.
		{"begin integer i; for i := 1 do l: end", 4, "i", "var1.0"},
		{"begin integer i; for i := 1 do l: end", 4, "l", "?"},
	} {
		if got := showPlace(lookup(t, statement(t, x.text), x.node, x.name)); got != x.want {
			t.Errorf("%s: at %d, %s is %s, not %s", x.text, x.node, x.name, got, x.want)
		}
	}
}

func TestPromise5Visible(t *testing.T) {
	const (
		standard = "standard-1.5 standard-1.7 standard-1.4 standard-1.2 standard-1.0 standard-1.1 standard-1.3 standard-1.6"
		block    = "begin integer sign, z; boolean z; procedure a(b, z); c: goto b; a: b: end"
	)
	for _, x := range []struct {
		text string
		node int
		want string
	}{
		{"", 0, standard},
		{example, 0, standard},
		{example, 3, standard},
		// a, abs, entier, i, inint, l, m, n, out .., p, sign, x
		{example, 9, "array2.0 standard-1.5 standard-1.7 var1.1 standard-1.4 label6.0 label10.0 var1.0 standard-1.2 standard-1.0 standard-1.1 standard-1.3 proc5.0 standard-1.6 formal5.0"},
		{block, 0, standard},
		{block, 2,
			"proc3.0 standard-1.5 label6.1 standard-1.7 standard-1.4 standard-1.2 standard-1.0 standard-1.1 standard-1.3 var1.0 var1.1"},
		{block, 5,
			"proc3.0 standard-1.5 formal3.0 label4.0 standard-1.7 standard-1.4 standard-1.2 standard-1.0 standard-1.1 standard-1.3 var1.0 formal3.1"},
	} {
		if got := showPlaces(visible(t, statement(t, x.text), x.node)); got != x.want {
			t.Errorf("%s: at %d, visible are %s, not %s", x.text, x.node, got, x.want)
		}
	}
}

func TestPromise6Free(t *testing.T) {
	for _, x := range []struct{ text, want string }{
		{example, "l n q"},
		{"", ""},
		{"a: goto a", ""},
		{"begin z(y[x], z, outreal, abs(z)); outreal end", "abs outreal x y z"},
		{"begin integer abs; abs := sign end", "sign"},
		{"begin integer x; array a[x: y]; x := y end", "x y"},
		{"begin procedure p(x); x; x; p end", "x"},
		{"x := \"y\"", "x"},
	} {
		if got := strings.Join(free(t, statement(t, x.text)), " "); got != x.want {
			t.Errorf("%s: free are %s, not %s", x.text, got, x.want)
		}
	}
}

func TestPromise8Enclosing(t *testing.T) {
	const nested = "l: begin procedure p(x); begin array a[x: 1]; real procedure q; q := 1; q end; switch s := x; p(1) end"
	for _, x := range []struct {
		text      string
		enclosing []int
		levels    []int
	}{
		{"", []int{-1}, []int{0}},
		{"begin if a then b else begin c end end", []int{-1, -1, -1, -1, -1, -1}, []int{0, 0, 0, 0, 0, 0}},
		{example, []int{-1, -1, -1, -1, -1, -1, 5, 5, 5, 5, -1, -1, -1, -1, -1, -1, -1}, []int{0, 1, 1, 0, 0, 1, 2, 2, 2, 2, 1, 1, 1, 1, 1, 1, 1}},
		{nested, []int{-1, -1, 1, 1, 1, 1, 1, 6, 6, 6, 1, -1, -1, -1, -1}, []int{0, 1, 2, 3, 2, 2, 3, 4, 4, 4, 3, 1, 1, 1, 1}},
		{"begin procedure p; q; integer i; for i := 1 do begin integer j; j := 2 end end",
			[]int{-1, -1, 1, -1, -1, -1, -1, -1, -1, -1, -1, -1, -1}, []int{0, 1, 2, 1, 1, 1, 1, 1, 1, 2, 2, 2, 2}},
	} {
		s := statement(t, x.text)
		paths, _ := tree.Paths(s)
		if len(paths) != len(x.levels) {
			t.Errorf("%s: %d parts", x.text, len(paths))
		}
		for node := range paths {
			if got := enclosing(t, s, node); got != x.enclosing[node] {
				t.Errorf("%s: %d is in the procedure %d, not %d", x.text, node, got, x.enclosing[node])
			}
			if got := level(t, s, node); got != x.levels[node] {
				t.Errorf("%s: %d has the level %d, not %d", x.text, node, got, x.levels[node])
			}
		}
	}
}

// result is what a call of one of the functions returns.
type result struct {
	name  string
	value any
	e     api.Errno
}

// callAll calls all functions with a statement.
func callAll(s api.Stmt, node int, name string, p api.Place) []result {
	var list []result
	add := func(name string, value any, e api.Errno) { list = append(list, result{name, value, e}) }
	uses, e := scope.Uses(s)
	add("Uses", uses, e)
	places, e := scope.Places(s)
	add("Places", places, e)
	text, e := scope.Name(s, p)
	add("Name", text, e)
	numbers, e := scope.UsesOf(s, p)
	add("UsesOf", numbers, e)
	place, e := scope.Lookup(s, node, name)
	add("Lookup", place, e)
	visible, e := scope.Visible(s, node)
	add("Visible", visible, e)
	free, e := scope.Free(s)
	add("Free", free, e)
	problems, e := scope.Check(s)
	add("Check", problems, e)
	number, e := scope.Enclosing(s, node)
	add("Enclosing", number, e)
	count, e := scope.Level(s, node)
	add("Level", count, e)
	return list
}

// isZero reports whether a result is a zero value; an empty list is one, too.
func isZero(value any) bool {
	v := reflect.ValueOf(value)
	return v.IsZero() || v.Kind() == reflect.Slice && v.Len() == 0
}

// TestPromises2To8Errors hands over statements that are not valid, with arguments of which others are wrong, too: the error of tree.Check comes first.
func TestPromises2To8Errors(t *testing.T) {
	endless := api.Stmt{Kind: api.StList, Body: make([]api.Stmt, 1)}
	endless.Body[0] = endless
	large := api.Stmt{Kind: api.StList, Body: slices.Repeat([]api.Stmt{{Kind: api.StEmpty}}, api.MaxNodes)}
	deep := api.Stmt{Kind: api.StEmpty}
	for range api.MaxNest {
		deep = api.Stmt{Kind: api.StList, Body: []api.Stmt{deep}}
	}
	unnamed := api.Stmt{Kind: api.StList, Body: []api.Stmt{{Kind: api.StCall, Text: "A"}, {Kind: api.StEmpty}}}
	bodiless := api.Stmt{Kind: api.StBlock, Decls: []api.Decl{{Kind: api.DeProc, Names: []string{"p"}}}, Body: []api.Stmt{{Kind: api.StEmpty}}}
	strange := api.Stmt{Kind: api.StBlock, Decls: []api.Decl{{Kind: 9, Names: []string{"p"}}}, Body: []api.Stmt{{Kind: api.StEmpty}}}
	for i, x := range []struct {
		s    api.Stmt
		want api.Errno
	}{
		{api.Stmt{}, api.ErrArg}, {unnamed, api.ErrArg}, {bodiless, api.ErrArg}, {strange, api.ErrArg}, {endless, api.ErrLimit}, {large, api.ErrLimit}, {deep, api.ErrLimit},
	} {
		for _, node := range []int{-1, 0, 1, 5000} {
			for _, p := range []api.Place{{}, {Kind: api.BiStandard, Node: -1, At: 0}, {Kind: api.BiProc, Node: 1, At: 0}} {
				for _, r := range callAll(x.s, node, "abs", p) {
					if r.e != x.want || !isZero(r.value) {
						t.Errorf("%s of the invalid statement %d: %v, %d", r.name, i, r.value, r.e)
					}
				}
			}
		}
	}
}

func TestPromises5And8NoPart(t *testing.T) {
	s := statement(t, "begin integer i; l: i := 1 end")
	for _, node := range []int{-1 << 63, -2, -1, 5, 6, 2000, 1<<63 - 1} {
		for _, r := range callAll(s, node, "abs", api.Place{Kind: api.BiVar, Node: 1, At: 0}) {
			switch r.name {
			case "Lookup", "Visible", "Enclosing", "Level":
				if r.e != api.ErrNone || !isZero(r.value) {
					t.Errorf("%s of the part %d: %v, %d", r.name, node, r.value, r.e)
				}
			default:
				wantOK(t, r.e)
			}
		}
	}
}

// TestLimits calls all functions with the largest and deepest statements that are valid.
func TestLimits(t *testing.T) {
	large := api.Stmt{Kind: api.StBlock, Decls: []api.Decl{{Kind: api.DeVar, Type: api.TyInt, Names: slices.Repeat([]string{"x"}, 997)}}}
	large.Body = slices.Repeat([]api.Stmt{{Kind: api.StCall, Text: "x"}}, api.MaxNodes-999)
	deep := api.Stmt{Kind: api.StCall, Text: "abs"}
	for range api.MaxNest - 1 {
		deep = api.Stmt{Kind: api.StBlock, Decls: []api.Decl{{Kind: api.DeVar, Type: api.TyInt, Names: []string{"abs"}}}, Body: []api.Stmt{deep}}
	}
	for _, s := range []api.Stmt{large, deep} {
		wantOK(t, tree.Check(s))
		for _, r := range callAll(s, 1, "abs", api.Place{Kind: api.BiVar, Node: 1, At: 0}) {
			wantOK(t, r.e)
		}
	}
	if got := usesOf(t, deep, api.Place{Kind: api.BiVar, Node: 117, At: 0}); !slices.Equal(got, []int{118}) || level(t, deep, 118) != 59 {
		t.Errorf("uses %v, level %d", got, level(t, deep, 118))
	}
	if list := problems(t, large); len(list) != 996+1001 {
		t.Errorf("%d problems", len(list))
	}
}

// TestMemory checks R5 to R7: calls change nothing, and return new memory each time.
func TestMemory(t *testing.T) {
	for _, s := range statements(1, 20) {
		before, e := tree.Copy(s)
		wantOK(t, e)
		p := api.Place{Kind: api.BiStandard, Node: -1, At: 5}
		first := callAll(s, 0, "abs", p)
		want := fmt.Sprint(first)
		for _, r := range first {
			if v := reflect.ValueOf(r.value); v.Kind() == reflect.Slice {
				v = v.Slice3(0, v.Cap(), v.Cap())
				reflect.Copy(v, reflect.MakeSlice(v.Type(), v.Len(), v.Len()))
			}
		}
		if got := fmt.Sprint(callAll(s, 0, "abs", p)); got != want {
			t.Errorf("%v: %s after changes of results, not %s", s, got, want)
		}
		if !tree.Same(s, before) {
			t.Errorf("%v was %v", s, before)
		}
	}
}

// TestPromises2To8Reference compares all functions with the second reading of the chapter.
func TestPromises2To8Reference(t *testing.T) {
	for i, s := range statements(2, 400) {
		r := newReading(t, s)
		text, _ := tree.Print(s)
		if got, want := showUses(uses(t, s)), showUses(r.uses()); got != want {
			t.Errorf("%s: uses %s, not %s", text, got, want)
		}
		if got, want := free(t, s), r.free(); !slices.Equal(got, want) {
			t.Errorf("%s: free are %s, not %s", text, got, want)
		}
		if got, want := showProblems(problems(t, s)), showProblems(r.problems()); got != want {
			t.Errorf("%s: problems %s, not %s", text, got, want)
		}
		var declared []api.Place
		for _, d := range r.declarations() {
			declared = append(declared, d.place)
		}
		if got := places(t, s); !slices.Equal(got, declared) {
			t.Errorf("%s: places %s, not %s", text, showPlaces(got), showPlaces(declared))
		}
		for _, d := range append(r.declarations(), r.extents[0].declared...) {
			if got := nameOf(t, s, d.place); got != d.name {
				t.Errorf("%s: the name at %v is %s, not %s", text, d.place, got, d.name)
			}
			if got, want := usesOf(t, s, d.place), r.numbersOf(d.place); !slices.Equal(got, want) {
				t.Errorf("%s: the uses of %v are %v, not %v", text, d.place, got, want)
			}
		}
		if i < 120 {
			checkParts(t, s, r)
		}
	}
}

// checkParts compares the functions that have the number of a part.
func checkParts(t *testing.T, s api.Stmt, r *reading) {
	t.Helper()
	text, _ := tree.Print(s)
	for n := range r.parts {
		if got, want := showPlaces(visible(t, s, n)), showPlaces(r.visible(n)); got != want {
			t.Errorf("%s: visible at %d are %s, not %s", text, n, got, want)
		}
		for _, name := range append(pool, "unheard") {
			if got, want := lookup(t, s, n, name), r.lookup(n, name); got != want {
				t.Errorf("%s: %s at %d is %v, not %v", text, name, n, got, want)
			}
		}
		if got, want := level(t, s, n), r.level(n); got != want {
			t.Errorf("%s: the level of %d is %d, not %d", text, n, got, want)
		}
		if got, want := enclosing(t, s, n), r.enclosing(n); got != want {
			t.Errorf("%s: the procedure around %d is %d, not %d", text, n, got, want)
		}
	}
}

// TestExampleNumbers checks that the chapter's numbers are those of the example's parts.
func TestExampleNumbers(t *testing.T) {
	pieces, e, _ := parse.Places(example)
	wantOK(t, e)
	for node, want := range map[int]string{2: "real array a[1: n]", 6: "l: a[x] := i", 10: "m: p(m)", 13: "l", 16: "q"} {
		if got := example[pieces[node].At:pieces[node].End]; got != want {
			t.Errorf("%d is %s", node, got)
		}
	}
}
