package array_test

import (
	"slices"
	"testing"

	"manorboy/api"
	"manorboy/array"
)

// TestPromises1To4Dims hands lists that are not proper to each function; their errors come ahead of all others.
func TestPromises1To4Dims(t *testing.T) {
	check := func(d []api.Dim, want api.Errno) {
		t.Helper()
		for _, s := range [][]int{nil, subs(1), subs(1, 1), subs(9, 9, 9), subs(1, 1, 1, 1, 1)} {
			if r := offset(d, s); r != (number{0, want}) {
				t.Errorf("Offset(%v, %v) = %v", d, s, r)
			}
		}
		for _, n := range []int{0, 1, -1, 5000} {
			if r := subscripts(d, n); !r.is(numbers{nil, want}) {
				t.Errorf("Subscripts(%v, %d) = %v", d, n, r)
			}
		}
		if strides, origin, e := array.Strides(d); len(strides) != 0 || origin != 0 || e != want {
			t.Errorf("Strides(%v) = %v, %d, %d", d, strides, origin, e)
		}
		for _, kind := range kinds {
			if r := create(kind, d); !r.is(wrong(want)) {
				t.Errorf("New(%d, %v) = %v", kind, d, r)
			}
		}
		for _, a := range []api.Array{arrayOf(dims(1, 1), "5"), arrayOf(square, "1 2 3 4 5 6"), arrayOf(dims(0, 0, 0, 0, 0, 0), "true")} {
			if r := resize(a, d); !r.is(wrong(want)) {
				t.Errorf("Resize(%v, %v) = %v", a, d, r)
			}
		}
	}
	for _, d := range noDims {
		check(d, api.ErrArg)
	}
	for _, d := range improper {
		check(d, api.ErrRange)
	}
}

// TestPromise4Order expects the errors of the first list ahead of those of the second one.
func TestPromise4Order(t *testing.T) {
	errors := func(a, b []api.Dim, want api.Errno) {
		t.Helper()
		if d, e := array.Common(a, b); len(d) != 0 || e != want {
			t.Errorf("Common(%v, %v) = %v, %d", a, b, d, e)
		}
	}
	for _, none := range noDims {
		for _, d := range proper {
			errors(none, d, api.ErrArg)
			errors(d, none, api.ErrArg)
		}
		for _, d := range improper {
			errors(none, d, api.ErrArg)
			errors(d, none, api.ErrRange)
		}
		errors(none, none, api.ErrArg)
	}
	for _, out := range improper {
		for _, d := range proper {
			errors(out, d, api.ErrRange)
			errors(d, out, api.ErrRange)
		}
		errors(out, out, api.ErrRange)
	}
}

// TestPromises5And8Types hands what is no type to New and Convert; for New this comes ahead of the dimensions.
func TestPromises5And8Types(t *testing.T) {
	for _, kind := range noKinds {
		for _, d := range slices.Concat(proper, noDims, improper) {
			if r := create(kind, d); !r.is(wrong(api.ErrArg)) {
				t.Errorf("New(%d, %v) = %v", kind, d, r)
			}
		}
		for _, a := range []api.Array{arrayOf(dims(1, 1), "5"), arrayOf(dims(0, 1), "0.5 1.0e50"), arrayOf(dims(3, 3), "true")} {
			if r := convert(a, kind); !r.is(wrong(api.ErrArg)) {
				t.Errorf("Convert(%v, %d) = %v", a, kind, r)
			}
		}
	}
}

// TestPromises6To8Arrays hands what is no array to each function; this comes ahead of all other errors.
func TestPromises6To8Arrays(t *testing.T) {
	for _, a := range invalid() {
		for _, s := range [][]int{nil, subs(0), subs(1), subs(9), subs(1, 1), subs(1, 2, 3, 4, 5)} {
			if r := get(a, s); r != (element{e: api.ErrArg}) {
				t.Errorf("Get(%v, %v) = %v", a, s, r)
			}
			for _, v := range []api.Value{whole(1), of("true"), of("1.0e50"), {}} {
				if r := set(a, s, v); !r.is(wrong(api.ErrArg)) {
					t.Errorf("Set(%v, %v, %v) = %v", a, s, v, r)
				}
			}
		}
		for _, d := range [][]api.Dim{a.Dims, square, dims(0, 1), dims(0, 0), dims(2, 1), dims(1, 1001), dims(1, top+1), nil} {
			if r := resize(a, d); !r.is(wrong(api.ErrArg)) {
				t.Errorf("Resize(%v, %v) = %v", a, d, r)
			}
		}
		for kind := -1; kind <= 4; kind++ {
			if r := convert(a, kind); !r.is(wrong(api.ErrArg)) {
				t.Errorf("Convert(%v, %d) = %v", a, kind, r)
			}
		}
	}
}

// TestPromise6Values hands what is no value to Set; the errors of the subscripts come first.
func TestPromise6Values(t *testing.T) {
	for _, v := range []api.Value{{}, {B: true}, {Kind: 4}, {Kind: -1}, whole(top + 1), whole(-top - 1), {Kind: api.TyInt, I: 1, B: true}, {Kind: api.TyReal, R: api.Real{Man: 1}}, {Kind: api.TyReal, I: 1}, {Kind: api.TyBool, I: 1}} {
		for _, a := range []api.Array{arrayOf(square, "1 2 3 4 5 6"), arrayOf(square, "0.5 0.5 0.5 0.5 0.5 0.5"), arrayOf(square, "true true true true true true")} {
			if r := set(a, subs(1, 1), v); !r.is(wrong(api.ErrArg)) {
				t.Errorf("Set(%v, %v) = %v", a, v, r)
			}
			if r := set(a, subs(1, 3), v); !r.is(wrong(api.ErrRange)) {
				t.Errorf("Set(%v, %v) out of bounds = %v", a, v, r)
			}
			if r := set(a, subs(1), v); !r.is(wrong(api.ErrKind)) {
				t.Errorf("Set(%v, %v) with one subscript = %v", a, v, r)
			}
		}
	}
}

// guarded is a list with something behind its end that is not to be touched.
type guarded[T comparable] struct{ all, before []T }

func guard[T comparable](list []T, behind T) guarded[T] {
	all := append(slices.Clone(list), behind, behind, behind)
	return guarded[T]{all, slices.Clone(all)}
}

func (g guarded[T]) list() []T { return g.all[:len(g.all)-3] }

func (g guarded[T]) isUnchanged() bool { return slices.Equal(g.all, g.before) }

// spoil overwrites a list, and what is behind its end up to its capacity.
func spoil[T any](list []T, with T) {
	list = list[:cap(list)]
	for i := range list {
		list[i] = with
	}
}

func spoilArray(a api.Array) {
	spoil(a.Dims, api.Dim{Lo: 77, Hi: 78})
	spoil(a.Elems, whole(79))
}

// TestPromises1To4Memory spoils results, and looks at the arguments and at further results.
func TestPromises1To4Memory(t *testing.T) {
	d, other, s := guard(square, api.Dim{Lo: 91, Hi: 92}), guard(dims(2, 5, -1, 1), api.Dim{Lo: 93, Hi: 94}), guard(subs(2, 1), 95)
	for range 2 {
		if n, e := array.Size(d.list()); n != 6 || e != api.OK {
			t.Errorf("Size = %d, %d", n, e)
		}
		if r := offset(d.list(), s.list()); r != (number{4, api.OK}) {
			t.Errorf("Offset = %v", r)
		}
		list := subscripts(d.list(), 4)
		strides, _, _ := array.Strides(d.list())
		common, _ := array.Common(d.list(), other.list())
		same, _ := array.Common(d.list(), d.list())
		if !list.is(numbers{subs(2, 1), api.OK}) || !slices.Equal(strides, subs(3, 1)) || !slices.Equal(common, dims(2, 2, 0, 1)) || !slices.Equal(same, square) {
			t.Errorf("%v, %v, %v, %v", list, strides, common, same)
		}
		spoil(list.list, 96)
		spoil(strides, 97)
		spoil(common, api.Dim{Lo: 98})
		spoil(same, api.Dim{Lo: 99})
		if !d.isUnchanged() || !other.isUnchanged() || !s.isUnchanged() {
			t.Errorf("an argument is changed: %v, %v, %v", d, other, s)
		}
	}
}

// TestPromises5To9Memory does the same with arrays.
func TestPromises5To9Memory(t *testing.T) {
	for _, kind := range kinds {
		m := newMaker(uint64(kind))
		d, s := guard(square, api.Dim{Lo: 91, Hi: 92}), guard(subs(2, 1), 95)
		elems := guard(m.array(kind, square).Elems, whole(93))
		a := api.Array{Type: kind, Dims: d.list(), Elems: elems.list()}
		v := m.value(kind)
		changed := api.Array{Type: kind, Dims: square, Elems: slices.Replace(slices.Clone(elems.list()), 4, 5, v)}
		before := api.Array{Type: kind, Dims: square, Elems: slices.Clone(elems.list())}
		for range 2 {
			if r := get(a, s.list()); r != (element{before.Elems[4], api.OK}) || array.Check(a) != api.OK || !array.Same(a, before) {
				t.Errorf("Get = %v", r)
			}
			results := []result{create(kind, d.list()), set(a, s.list(), v), resize(a, d.list()), convert(a, kind)}
			if !results[1].is(right(changed)) || !results[2].is(right(before)) || !results[3].is(right(before)) || !resize(results[0].a, square).is(results[0]) {
				t.Errorf("%v", results)
			}
			for _, r := range results {
				spoilArray(r.a)
			}
			if !d.isUnchanged() || !s.isUnchanged() || !elems.isUnchanged() {
				t.Errorf("an argument is changed: %v, %v, %v", d, s, elems)
			}
		}
	}
}
