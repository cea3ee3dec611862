package array_test

import (
	"slices"
	"testing"

	"manorboy/api"
	"manorboy/array"
)

func TestPromise1Size(t *testing.T) {
	for _, c := range []struct {
		d    []api.Dim
		want int
	}{
		{square, 6}, {dims(1, 1), 1}, {dims(1, 1000), 1000}, {dims(-999, 0), 1000}, {dims(top, top), 1}, {dims(-top, -top), 1}, {dims(top-999, top), 1000}, {dims(-3, 3), 7},
		{dims(1, 500, 1, 2), 1000}, {dims(1, 31, 1, 32), 992}, {dims(1, 10, 1, 10, 1, 10), 1000}, {dims(1, 5, 1, 5, 1, 5, 1, 8), 1000}, {dims(0, 1, 0, 2, 0, 1, 0, 4), 60}, {dims(7, 7, 7, 7, 7, 7, 7, 7), 1},
	} {
		if n, e := array.Size(c.d); n != c.want || e != api.OK {
			t.Errorf("Size(%v) = %d, %d", c.d, n, e)
		}
	}
	for _, d := range improper {
		if n, e := array.Size(d); n != 0 || e != api.ErrRange {
			t.Errorf("Size(%v) = %d, %d", d, n, e)
		}
	}
	for _, d := range noDims {
		if n, e := array.Size(d); n != 0 || e != api.ErrArg {
			t.Errorf("Size(%v) = %d, %d", d, n, e)
		}
	}
}

func TestPromise2Offset(t *testing.T) {
	for _, c := range []struct {
		d    []api.Dim
		s    []int
		want number
	}{
		{square, subs(1, 0), number{0, api.OK}}, {square, subs(1, 2), number{2, api.OK}}, {square, subs(2, 0), number{3, api.OK}}, {square, subs(2, 2), number{5, api.OK}},
		{dims(-3, 5), subs(-3), number{0, api.OK}}, {dims(-3, 5), subs(5), number{8, api.OK}}, {dims(top-9, top, -top, -top+99), subs(top-2, -top+5), number{705, api.OK}},
		{dims(1, 10, 1, 10, 1, 10), subs(3, 7, 9), number{268, api.OK}}, {dims(0, 1, 0, 2, 0, 1, 0, 4), subs(1, 0, 1, 2), number{37, api.OK}},
		{square, subs(3, 0), number{0, api.ErrRange}}, {square, subs(0, 0), number{0, api.ErrRange}}, {square, subs(1, 3), number{0, api.ErrRange}}, {square, subs(1, -1), number{0, api.ErrRange}}, {square, subs(2, -1), number{0, api.ErrRange}},
		{square, subs(top+1, 0), number{0, api.ErrRange}}, {square, subs(1<<32+1, 0), number{0, api.ErrRange}}, {square, subs(-1<<63, 1<<63-1), number{0, api.ErrRange}}, {dims(top, top), subs(top + 1), number{0, api.ErrRange}}, {dims(-top, -top), subs(-top - 1), number{0, api.ErrRange}},
		{dims(0, 1, 0, 2, 0, 1, 0, 4), subs(0, 0, 0, 5), number{0, api.ErrRange}}, {dims(0, 1, 0, 2, 0, 1, 0, 4), subs(0, 0, 2, 0), number{0, api.ErrRange}},
		{square, subs(1), number{0, api.ErrKind}}, {square, subs(), number{0, api.ErrKind}}, {square, nil, number{0, api.ErrKind}}, {square, subs(1, 0, 0), number{0, api.ErrKind}}, {square, subs(9), number{0, api.ErrKind}}, {square, subs(9, 9, 9), number{0, api.ErrKind}},
		{dims(0, 0), subs(0, 0), number{0, api.ErrKind}}, {dims(0, 0), subs(), number{0, api.ErrKind}}, {dims(0, 0), subs(0, 0, 0, 0, 0, 0), number{0, api.ErrKind}}, {dims(0, 0, 0, 0, 0, 0, 0, 0), subs(0, 0, 0, 0, 0), number{0, api.ErrKind}}, {dims(0, 0, 0, 0), subs(0), number{0, api.ErrKind}},
	} {
		if r := offset(c.d, c.s); r != c.want {
			t.Errorf("Offset(%v, %v) = %v, not %v", c.d, c.s, r, c.want)
		}
	}
}

func TestPromise2Subscripts(t *testing.T) {
	for _, c := range []struct {
		d    []api.Dim
		n    int
		want numbers
	}{
		{square, 5, numbers{subs(2, 2), api.OK}}, {square, 0, numbers{subs(1, 0), api.OK}}, {square, 3, numbers{subs(2, 0), api.OK}}, {dims(-3, 5), 4, numbers{subs(1), api.OK}},
		{dims(top-9, top, -top, -top+99), 705, numbers{subs(top-2, -top+5), api.OK}}, {dims(0, 1, 0, 2, 0, 1, 0, 4), 37, numbers{subs(1, 0, 1, 2), api.OK}}, {dims(1, 1000), 999, numbers{subs(1000), api.OK}},
		{square, 6, numbers{nil, api.ErrRange}}, {square, -1, numbers{nil, api.ErrRange}}, {square, 1<<63 - 1, numbers{nil, api.ErrRange}}, {square, -1 << 63, numbers{nil, api.ErrRange}}, {square, 1 << 32, numbers{nil, api.ErrRange}}, {dims(0, 0), 1, numbers{nil, api.ErrRange}}, {dims(1, 1000), 1000, numbers{nil, api.ErrRange}},
	} {
		if r := subscripts(c.d, c.n); !r.is(c.want) {
			t.Errorf("Subscripts(%v, %d) = %v, not %v", c.d, c.n, r, c.want)
		}
	}
}

func TestPromise3Strides(t *testing.T) {
	for _, c := range []struct {
		d       []api.Dim
		strides []int
		origin  int
	}{
		{square, subs(3, 1), -3}, {dims(5, 9), subs(1), -5}, {dims(-5, 9), subs(1), 5}, {dims(0, 0), subs(1), 0}, {dims(top, top), subs(1), -top}, {dims(-top, -top, 1, 1000), subs(1000, 1), 1000*top - 1},
		{dims(1, 10, 1, 10, 1, 10), subs(100, 10, 1), -111}, {dims(0, 1, 1, 3, 2, 3, 3, 7), subs(30, 10, 5, 1), -23}, {dims(1, 5, 1, 1, 1, 1, 1, 2), subs(2, 2, 2, 1), -7}, {dims(top-9, top, -top, -top+99), subs(100, 1), -100*(top-9) + top},
	} {
		strides, origin, e := array.Strides(c.d)
		if !slices.Equal(strides, c.strides) || origin != c.origin || e != api.OK {
			t.Errorf("Strides(%v) = %v, %d, %d", c.d, strides, origin, e)
		}
	}
}

func TestPromise4Common(t *testing.T) {
	for _, c := range []struct {
		a, b, want []api.Dim
		e          api.Errno
	}{
		{square, dims(2, 5, -1, 1), dims(2, 2, 0, 1), api.OK}, {square, square, square, api.OK}, {square, dims(2, 3, 2, 2), dims(2, 2, 2, 2), api.OK}, {square, dims(-9, 9, -9, 9), square, api.OK}, {dims(1, 5), dims(2, 3), dims(2, 3), api.OK}, {dims(1, 3), dims(3, 5), dims(3, 3), api.OK},
		{dims(1, 1000), dims(1000, 1999), dims(1000, 1000), api.OK}, {dims(top, top), dims(top-5, top), dims(top, top), api.OK}, {dims(0, 3, 0, 3, 0, 3, 0, 3), dims(1, 4, -1, 2, 2, 2, 3, 5), dims(1, 3, 0, 2, 2, 2, 3, 3), api.OK},
		{dims(1, 2), dims(3, 4), nil, api.ErrNone}, {dims(-top, -top), dims(top, top), nil, api.ErrNone}, {square, dims(1, 2, 3, 4), nil, api.ErrNone}, {square, dims(3, 4, 0, 2), nil, api.ErrNone}, {square, dims(5, 6, 7, 8), nil, api.ErrNone}, {dims(0, 3, 0, 3, 0, 3, 0, 3), dims(0, 3, 0, 3, 0, 3, 4, 5), nil, api.ErrNone},
		{square, dims(1, 2), nil, api.ErrKind}, {dims(1, 2), square, nil, api.ErrKind}, {dims(0, 0), dims(0, 0, 0, 0), nil, api.ErrKind}, {dims(1, 2), dims(3, 4, 3, 4), nil, api.ErrKind}, {dims(0, 0, 0, 0, 0, 0, 0, 0), dims(0, 0, 0, 0, 0, 0), nil, api.ErrKind},
	} {
		for _, swap := range []bool{false, true} {
			a, b := c.a, c.b
			if swap {
				a, b = b, a
			}
			if d, e := array.Common(a, b); !slices.Equal(d, c.want) || e != c.e {
				t.Errorf("Common(%v, %v) = %v, %d", a, b, d, e)
			}
		}
	}
}

func TestPromise5New(t *testing.T) {
	zeros := map[int]api.Value{api.TyInt: of("0"), api.TyReal: of("0.0"), api.TyBool: of("false")}
	for kind, zero := range zeros {
		for _, d := range proper {
			want := api.Array{Type: kind, Dims: d, Elems: slices.Repeat([]api.Value{zero}, len(lists(d)))}
			if r := create(kind, d); !r.is(right(want)) {
				t.Errorf("New(%d, %v) = %v", kind, d, r)
			}
		}
	}
}

// invalid are no arrays: the right ones with one thing changed, and others.
func invalid() []api.Array {
	list := []api.Array{{}, {Type: api.TyInt}, {Type: api.TyInt, Elems: []api.Value{whole(1)}}, {Type: api.TyInt, Dims: square}, {Elems: []api.Value{{}}, Dims: dims(1, 1)}, {Type: 4, Elems: []api.Value{{Kind: 4}}, Dims: dims(1, 1)}}
	for _, kind := range append(noKinds, api.TyReal, api.TyBool) {
		a := arrayOf(dims(0, 1), "7 8")
		a.Type = kind
		list = append(list, a)
	}
	for _, d := range slices.Concat(noDims, improper, [][]api.Dim{dims(0, 0), dims(0, 2), dims(0, 1, 0, 1)}) {
		list = append(list, api.Array{Type: api.TyInt, Dims: d, Elems: []api.Value{whole(7), whole(8)}}, api.Array{Type: api.TyInt, Dims: d})
	}
	for _, v := range []api.Value{{}, of("1.5"), of("true"), whole(top + 1), whole(-top - 1), {Kind: api.TyInt, I: 1, B: true}, {Kind: api.TyInt, R: api.Real{Exp: 1}}, {Kind: 4}} {
		list = append(list, api.Array{Type: api.TyInt, Dims: dims(0, 1), Elems: []api.Value{v, whole(7)}}, api.Array{Type: api.TyInt, Dims: dims(0, 1), Elems: []api.Value{whole(7), v}})
	}
	for _, v := range []api.Value{whole(0), whole(1), of("false"), {Kind: api.TyReal, R: api.Real{Man: 1}}, {Kind: api.TyReal, R: api.Real{Man: 1 << 24}}, {Kind: api.TyReal, I: 1}} {
		list = append(list, api.Array{Type: api.TyReal, Dims: dims(0, 1), Elems: []api.Value{of("1.5"), v}})
	}
	for _, v := range []api.Value{whole(0), of("0.0"), {Kind: api.TyBool, I: 1}, {B: true}} {
		list = append(list, api.Array{Type: api.TyBool, Dims: dims(0, 1), Elems: []api.Value{v, of("true")}})
	}
	var long api.Array
	long.Type, long.Dims, long.Elems = api.TyInt, dims(1, 1001), slices.Repeat([]api.Value{whole(1)}, 1001)
	return append(list, long)
}

func TestPromise5Check(t *testing.T) {
	for _, a := range []api.Array{
		arrayOf(dims(0, 1), "7 8"), arrayOf(square, "1 2 3 4 5 6"), arrayOf(dims(-1, 1), "1.5 -0.25 0.0"), arrayOf(dims(3, 3, 4, 5), "true false"), arrayOf(dims(top, top), "2147483647"), arrayOf(dims(1, 1, 1, 1, 1, 1, 1, 1), "-2147483647"), arrayOf(dims(0, 0), "1.0e50"),
		{Type: api.TyBool, Dims: dims(1, 1000), Elems: slices.Repeat([]api.Value{of("true")}, 1000)},
	} {
		if e := array.Check(a); e != api.OK {
			t.Errorf("Check(%v) = %d", a, e)
		}
	}
	for _, a := range invalid() {
		if e := array.Check(a); e != api.ErrArg {
			t.Errorf("Check(%v) = %d", a, e)
		}
	}
}

func TestPromise6Get(t *testing.T) {
	a := arrayOf(square, "10 11 12 20 21 22")
	for _, c := range []struct {
		a    api.Array
		s    []int
		want element
	}{
		{a, subs(1, 0), element{whole(10), api.OK}}, {a, subs(1, 2), element{whole(12), api.OK}}, {a, subs(2, 0), element{whole(20), api.OK}}, {a, subs(2, 2), element{whole(22), api.OK}},
		{arrayOf(dims(-1, 1), "1.5 -0.25 0.0"), subs(0), element{of("-0.25"), api.OK}}, {arrayOf(dims(5, 6), "true false"), subs(5), element{of("true"), api.OK}},
		{a, subs(3, 0), element{e: api.ErrRange}}, {a, subs(1, 3), element{e: api.ErrRange}}, {a, subs(0, 2), element{e: api.ErrRange}}, {a, subs(2, -1), element{e: api.ErrRange}},
		{a, subs(1), element{e: api.ErrKind}}, {a, subs(9), element{e: api.ErrKind}}, {a, nil, element{e: api.ErrKind}}, {a, subs(1, 0, 0), element{e: api.ErrKind}},
	} {
		if r := get(c.a, c.s); r != c.want {
			t.Errorf("Get(%v, %v) = %v, not %v", c.a, c.s, r, c.want)
		}
	}
}

func TestPromise6Set(t *testing.T) {
	integers, reals, truths := arrayOf(square, "10 11 12 20 21 22"), arrayOf(dims(-1, 1), "1.5 -0.25 0.0"), arrayOf(dims(5, 6), "true false")
	for _, c := range []struct {
		a    api.Array
		s    []int
		v    string
		want result
	}{
		{integers, subs(1, 2), "7", right(arrayOf(square, "10 11 7 20 21 22"))}, {integers, subs(2, 0), "2.5", right(arrayOf(square, "10 11 12 3 21 22"))}, {integers, subs(2, 2), "-2.5", right(arrayOf(square, "10 11 12 20 21 -2"))}, {integers, subs(1, 0), "10", right(integers)},
		{reals, subs(-1), "3", right(arrayOf(dims(-1, 1), "3.0 -0.25 0.0"))}, {reals, subs(1), "1.0e50", right(arrayOf(dims(-1, 1), "1.5 -0.25 1.0e50"))}, {reals, subs(0), "16777217", right(arrayOf(dims(-1, 1), "1.5 16777216.0 0.0"))}, {truths, subs(6), "true", right(arrayOf(dims(5, 6), "true true"))},
		{integers, subs(1, 0), "1.0e50", wrong(api.ErrRange)}, {integers, subs(1, 0), "2147483648.0", wrong(api.ErrRange)}, {integers, subs(1, 0), "true", wrong(api.ErrType)}, {reals, subs(0), "false", wrong(api.ErrType)}, {truths, subs(5), "1", wrong(api.ErrType)}, {truths, subs(5), "0.0", wrong(api.ErrType)},
		{integers, subs(3, 0), "7", wrong(api.ErrRange)}, {integers, subs(1, 3), "7", wrong(api.ErrRange)}, {integers, subs(3, 0), "true", wrong(api.ErrRange)}, {integers, subs(1), "7", wrong(api.ErrKind)}, {integers, subs(1, 0, 0), "7", wrong(api.ErrKind)}, {integers, subs(9), "true", wrong(api.ErrKind)}, {integers, subs(9), "1.0e50", wrong(api.ErrKind)},
	} {
		if r := set(c.a, c.s, of(c.v)); !r.is(c.want) {
			t.Errorf("Set(%v, %v, %s) = %v, not %v", c.a, c.s, c.v, r, c.want)
		}
	}
}

func TestPromise7Resize(t *testing.T) {
	three := arrayOf(dims(1, 3), "7 8 9")
	for _, c := range []struct {
		a    api.Array
		d    []api.Dim
		want result
	}{
		{three, dims(2, 4), right(arrayOf(dims(2, 4), "8 9 0"))}, {arrayOf(dims(2, 4), "8 9 0"), dims(1, 3), right(arrayOf(dims(1, 3), "0 8 9"))}, {three, dims(1, 3), right(three)}, {three, dims(4, 5), right(arrayOf(dims(4, 5), "0 0"))}, {three, dims(2, 2), right(arrayOf(dims(2, 2), "8"))}, {three, dims(-1, 5), right(arrayOf(dims(-1, 5), "0 0 7 8 9 0 0"))}, {three, dims(3, 3), right(arrayOf(dims(3, 3), "9"))},
		{arrayOf(square, "10 11 12 20 21 22"), dims(2, 3, -1, 1), right(arrayOf(dims(2, 3, -1, 1), "0 20 21 0 0 0"))}, {arrayOf(square, "10 11 12 20 21 22"), dims(0, 2, 1, 2), right(arrayOf(dims(0, 2, 1, 2), "0 0 11 12 21 22"))}, {arrayOf(square, "10 11 12 20 21 22"), dims(1, 2, 3, 4), right(arrayOf(dims(1, 2, 3, 4), "0 0 0 0"))}, {arrayOf(square, "10 11 12 20 21 22"), dims(5, 5, 5, 5), right(arrayOf(dims(5, 5, 5, 5), "0"))},
		{arrayOf(dims(0, 1), "1.5 -0.25"), dims(1, 2), right(arrayOf(dims(1, 2), "-0.25 0.0"))}, {arrayOf(dims(0, 1), "true true"), dims(-1, 0), right(arrayOf(dims(-1, 0), "false true"))}, {arrayOf(dims(0, 1), "true true"), dims(2, 3), right(arrayOf(dims(2, 3), "false false"))},
		{arrayOf(dims(0, 1, 0, 0, 0, 1, 0, 0), "1 2 3 4"), dims(0, 0, 0, 1, 1, 2, -1, 0), right(arrayOf(dims(0, 0, 0, 1, 1, 2, -1, 0), "0 2 0 0 0 0 0 0"))}, {arrayOf(dims(-top, -top), "5"), dims(top, top), right(arrayOf(dims(top, top), "0"))},
		{three, square, wrong(api.ErrKind)}, {arrayOf(square, "1 2 3 4 5 6"), dims(1, 3), wrong(api.ErrKind)}, {arrayOf(dims(0, 0), "1"), dims(0, 0, 0, 0), wrong(api.ErrKind)}, {arrayOf(dims(0, 0, 0, 0), "1"), dims(0, 0), wrong(api.ErrKind)}, {three, dims(5, 6, 5, 6), wrong(api.ErrKind)},
	} {
		if r := resize(c.a, c.d); !r.is(c.want) {
			t.Errorf("Resize(%v, %v) = %v, not %v", c.a, c.d, r, c.want)
		}
	}
}

func TestPromise8Convert(t *testing.T) {
	two := dims(3, 4)
	for _, c := range []struct {
		a    api.Array
		kind int
		want result
	}{
		{arrayOf(two, "1.5 -0.25"), api.TyInt, right(arrayOf(two, "2 0"))}, {arrayOf(two, "2.5 -2.5"), api.TyInt, right(arrayOf(two, "3 -2"))}, {arrayOf(two, "3 16777217"), api.TyReal, right(arrayOf(two, "3.0 16777216.0"))}, {arrayOf(square, "1.5 2.5 3.5 4.5 5.5 6.5"), api.TyInt, right(arrayOf(square, "2 3 4 5 6 7"))},
		{arrayOf(two, "7 8"), api.TyInt, right(arrayOf(two, "7 8"))}, {arrayOf(two, "1.0e50 0.5"), api.TyReal, right(arrayOf(two, "1.0e50 0.5"))}, {arrayOf(two, "true false"), api.TyBool, right(arrayOf(two, "true false"))},
		{arrayOf(two, "1.0e50 0.5"), api.TyInt, wrong(api.ErrRange)}, {arrayOf(two, "0.5 -2147483648.0"), api.TyInt, wrong(api.ErrRange)}, {arrayOf(two, "1.0e50 0.5"), api.TyBool, wrong(api.ErrType)}, {arrayOf(two, "0 1"), api.TyBool, wrong(api.ErrType)}, {arrayOf(two, "true false"), api.TyInt, wrong(api.ErrType)}, {arrayOf(two, "true false"), api.TyReal, wrong(api.ErrType)},
	} {
		if r := convert(c.a, c.kind); !r.is(c.want) {
			t.Errorf("Convert(%v, %d) = %v, not %v", c.a, c.kind, r, c.want)
		}
	}
}

func TestPromise9Same(t *testing.T) {
	list := []api.Array{
		arrayOf(dims(1, 2), "0 0"), arrayOf(dims(1, 2), "0 1"), arrayOf(dims(1, 2), "1 0"), arrayOf(dims(0, 1), "0 0"), arrayOf(dims(1, 3), "0 0 0"), arrayOf(dims(1, 2), "0.0 0.0"), arrayOf(dims(1, 2), "1.0 0.0"), arrayOf(dims(1, 2), "false false"), arrayOf(dims(1, 2), "true false"),
		arrayOf(dims(1, 2, 0, 0), "0 0"), arrayOf(dims(0, 0, 1, 2), "0 0"), arrayOf(dims(1, 2, 1, 1), "0 0"), arrayOf(dims(1, 2, 0, 0, 0, 0), "0 0"), arrayOf(dims(1, 2, 0, 0, 0, 0, 0, 0), "0 0"), arrayOf(dims(1, 1, 1, 2), "0 0"), arrayOf(dims(1, 2, 1, 2), "0 0 0 0"),
	}
	for i, a := range list {
		for k, b := range list {
			other := api.Array{Type: b.Type, Dims: slices.Clone(b.Dims), Elems: slices.Clone(b.Elems)}
			if array.Same(a, other) != (i == k) {
				t.Errorf("Same(%v, %v)", a, b)
			}
		}
	}
	for _, a := range invalid() {
		if array.Same(a, a) || array.Same(a, list[0]) || array.Same(list[0], a) || array.Same(a, api.Array{}) {
			t.Errorf("%v is the same as another one", a)
		}
	}
}
