package array_test

import (
	"slices"
	"testing"

	"manorboy/api"
	"manorboy/array"
)

// several returns small dimensions, those at the limits, and random ones.
func several(seed uint64) [][]api.Dim {
	all := slices.Concat(small(), proper)
	m := newMaker(seed)
	for n := range 200 {
		all = append(all, m.dims(n%api.MaxDims+1))
	}
	return all
}

// TestPromise10Order compares sizes, offsets and subscripts with the list of all subscript lists.
func TestPromise10Order(t *testing.T) {
	for _, d := range several(10) {
		all := lists(d)
		if n, e := array.Size(d); n != len(all) || e != api.OK {
			t.Errorf("Size(%v) = %d, %d", d, n, e)
		}
		for n, s := range all {
			if r := offset(d, s); r != (number{n, api.OK}) {
				t.Errorf("Offset(%v, %v) = %v", d, s, r)
			}
			if r := subscripts(d, n); !r.is(numbers{s, api.OK}) {
				t.Errorf("Subscripts(%v, %d) = %v", d, n, r)
			}
		}
		for _, n := range []int{-1, len(all)} {
			if r := subscripts(d, n); !r.is(numbers{nil, api.ErrRange}) {
				t.Errorf("Subscripts(%v, %d) = %v", d, n, r)
			}
		}
	}
}

// TestPromise2Bounds moves each subscript out of its bounds.
func TestPromise2Bounds(t *testing.T) {
	for _, d := range several(2) {
		for _, s := range [][]int{lists(d)[0], lists(d)[len(lists(d))-1]} {
			for i := range d {
				for _, n := range []int{d[i].Lo - 1, d[i].Hi + 1, d[i].Lo - 1000, d[i].Hi + 1000} {
					out := slices.Replace(slices.Clone(s), i, i+1, n)
					if r := offset(d, out); r != (number{0, api.ErrRange}) {
						t.Errorf("Offset(%v, %v) = %v", d, out, r)
					}
				}
				if r := offset(d, s[:i]); r != (number{0, api.ErrKind}) {
					t.Errorf("Offset(%v, %v) = %v", d, s[:i], r)
				}
			}
			if r := offset(d, append(slices.Clone(s), s[0])); r != (number{0, api.ErrKind}) {
				t.Errorf("Offset(%v) with one more subscript than %v = %v", d, s, r)
			}
		}
	}
}

// TestPromises3And13Linear compares the linear form with the list of all subscript lists, and with their neighbours.
func TestPromises3And13Linear(t *testing.T) {
	for _, d := range several(13) {
		strides, origin, e := array.Strides(d)
		if len(strides) != len(d) || e != api.OK {
			t.Errorf("Strides(%v) = %v, %d", d, strides, e)
			continue
		}
		for n, s := range lists(d) {
			sum := origin
			for i, stride := range strides {
				sum += stride * s[i]
				if s[i] == d[i].Hi {
					continue
				}
				next := slices.Clone(s)
				next[i]++
				if r := offset(d, next); r != (number{n + stride, api.OK}) {
					t.Errorf("Offset(%v, %v) = %v, not %d more than %d", d, next, r, stride, n)
				}
			}
			if sum != n {
				t.Errorf("the linear form of %v has the offset %d for %v", d, sum, s)
			}
		}
		product := 1
		for i := len(d) - 1; i >= 0; i-- {
			if strides[i] != product {
				t.Errorf("Strides(%v) = %v", d, strides)
			}
			product *= d[i].Hi - d[i].Lo + 1
		}
	}
}

// TestPromise4Reference compares common dimensions with the subscript lists that are in bounds of both.
func TestPromise4Reference(t *testing.T) {
	m := newMaker(4)
	pairs := [][2][]api.Dim{}
	for _, a := range small() {
		for _, b := range small() {
			pairs = append(pairs, [2][]api.Dim{a, b})
		}
	}
	for n := range 400 {
		pairs = append(pairs, [2][]api.Dim{m.dims(n%4 + 1), m.dims(n%4 + 1)})
	}
	for _, pair := range pairs {
		d, e := array.Common(pair[0], pair[1])
		if len(pair[0]) != len(pair[1]) {
			if len(d) != 0 || e != api.ErrKind {
				t.Errorf("Common%v = %v, %d", pair, d, e)
			}
			continue
		}
		var both [][]int
		second := lists(pair[1])
		for _, s := range lists(pair[0]) {
			if slices.ContainsFunc(second, func(other []int) bool { return slices.Equal(s, other) }) {
				both = append(both, s)
			}
		}
		if both == nil {
			if len(d) != 0 || e != api.ErrNone {
				t.Errorf("Common%v = %v, %d", pair, d, e)
			}
			continue
		}
		if e != api.OK || len(d) != len(pair[0]) || !slices.EqualFunc(lists(d), both, slices.Equal) {
			t.Errorf("Common%v = %v, %d", pair, d, e)
		}
	}
}

// held is what an array holds, by subscript lists: a second reading of arrays. Lists that are too short have zeros behind their end.
type held map[[api.MaxDims]int]api.Value

func key(s []int) (k [api.MaxDims]int) {
	copy(k[:], s)
	return k
}

func heldBy(a api.Array) held {
	h := held{}
	for n, s := range lists(a.Dims) {
		h[key(s)] = a.Elems[n]
	}
	return h
}

// array returns the array that holds it; where there is nothing, it holds the first value of the type.
func (h held) array(kind int, d []api.Dim) api.Array {
	a := api.Array{Type: kind, Dims: d}
	for _, s := range lists(d) {
		v, ok := h[key(s)]
		if !ok {
			v = api.Value{Kind: kind}
		}
		a.Elems = append(a.Elems, v)
	}
	return a
}

// TestPromise11ReadOverWrite compares random elements that are set with what is held.
func TestPromise11ReadOverWrite(t *testing.T) {
	m := newMaker(11)
	for n := range 150 {
		kind := kinds[n%3]
		a := m.array(kind, m.dims(n%4+1))
		h, all := heldBy(a), lists(a.Dims)
		for range 10 {
			s, v := all[m.IntN(len(all))], m.value(kind)
			h[key(s)] = v
			r := set(a, s, v)
			if !r.is(right(h.array(kind, a.Dims))) {
				t.Fatalf("Set(%v, %v, %v) = %v", a, s, v, r)
			}
			a = r.a
		}
		for _, s := range all {
			if r := get(a, s); r != (element{h[key(s)], api.OK}) {
				t.Errorf("Get(%v, %v) = %v", a, s, r)
			}
		}
	}
}

// TestPromise11Laws sets two elements of an array to values of any types.
func TestPromise11Laws(t *testing.T) {
	m := newMaker(111)
	for n := range 300 {
		a := m.array(kinds[n%3], m.dims(n%2+1))
		all := lists(a.Dims)
		s, other := all[m.IntN(len(all))], all[m.IntN(len(all))]
		v, w := m.value(kinds[m.IntN(3)]), m.value(kinds[m.IntN(3)])
		one := set(a, s, v)
		if converted := convert(arrayOfOne(v), a.Type); converted.e != one.e || one.e == api.OK && get(one.a, s) != (element{converted.a.Elems[0], api.OK}) {
			t.Errorf("Get behind Set(%v, %v, %v) is not %v", a, s, v, converted)
		}
		for _, rest := range all {
			if one.e == api.OK && !slices.Equal(rest, s) && get(one.a, rest) != get(a, rest) {
				t.Errorf("Set(%v, %v, %v) changes %v", a, s, v, rest)
			}
		}
		setOther := func(b api.Array) result { return set(b, other, w) }
		setOne := func(b api.Array) result { return set(b, s, v) }
		if second := set(a, other, w); one.e == api.OK && second.e == api.OK {
			if slices.Equal(s, other) && !one.then(setOther).is(second) {
				t.Errorf("the second one of two Sets of %v at %v does not count", a, s)
			}
			if !slices.Equal(s, other) && !one.then(setOther).is(second.then(setOne)) {
				t.Errorf("Sets of %v at %v and %v do not commute", a, s, other)
			}
		}
	}
}

func arrayOfOne(v api.Value) api.Array {
	return api.Array{Type: v.Kind, Dims: dims(0, 0), Elems: []api.Value{v}}
}

// TestPromise7Reference resizes arrays of all small dimensions to all others.
func TestPromise7Reference(t *testing.T) {
	m := newMaker(7)
	for n, from := range small() {
		a := m.array(kinds[n%3], from)
		for _, to := range small() {
			want := wrong(api.ErrKind)
			if len(from) == len(to) {
				want = right(heldBy(a).array(a.Type, to))
			}
			if r := resize(a, to); !r.is(want) {
				t.Errorf("Resize(%v, %v) = %v, not %v", a, to, r, want)
			}
		}
	}
}

// TestPromise12Sequences compares sequences of resizes with what is held by then.
func TestPromise12Sequences(t *testing.T) {
	m := newMaker(12)
	for n := range 400 {
		kind, rank := kinds[n%3], n%4+1
		now := m.array(kind, m.dims(rank))
		if r := resize(now, slices.Clone(now.Dims)); !r.is(right(now)) {
			t.Errorf("Resize(%v) to its dimensions = %v", now, r)
		}
		for range 6 {
			to := m.dims(rank)
			want := heldBy(now).array(kind, to)
			r := resize(now, to)
			if !r.is(right(want)) {
				t.Fatalf("Resize(%v, %v) = %v", now, to, r)
			}
			now = r.a
		}
	}
}

// TestPromise12Kept follows single elements: those in bounds of all dimensions, and those that leave the bounds once.
func TestPromise12Kept(t *testing.T) {
	m := newMaker(112)
	for n := range 300 {
		kind, rank := kinds[n%3], n%3+1
		first := m.array(kind, m.dims(rank))
		now, sequence := right(first), [][]api.Dim{}
		for range m.IntN(4) + 1 {
			sequence = append(sequence, m.dims(rank))
		}
		sequence = append(sequence, first.Dims)
		for _, d := range sequence {
			now = now.then(func(a api.Array) result { return resize(a, d) })
		}
		for _, s := range lists(first.Dims) {
			want := get(first, s)
			if slices.ContainsFunc(sequence, func(d []api.Dim) bool { return offset(d, s).e != api.OK }) {
				want.v = api.Value{Kind: kind}
			}
			if r := get(now.a, s); r != want {
				t.Errorf("behind %v, %v of %v is %v", sequence, s, first, r)
			}
		}
	}
}

// TestPromise12Middle leaves a resize out whose dimensions contain the next ones.
func TestPromise12Middle(t *testing.T) {
	m := newMaker(1212)
	for n := range 300 {
		rank := n%4 + 1
		a, last := m.array(kinds[n%3], m.dims(rank)), m.dims(rank)
		middle := slices.Clone(last)
		for i := range middle {
			middle[i].Lo -= m.IntN(2)
			middle[i].Hi += m.IntN(2)
		}
		toLast := func(b api.Array) result { return resize(b, last) }
		if r := resize(a, middle).then(toLast); !r.is(resize(a, last)) {
			t.Errorf("%v over %v to %v is %v", a, middle, last, r)
		}
	}
}

// TestPromise14Conversion converts arrays with and without errors, ahead of a resize and behind it.
func TestPromise14Conversion(t *testing.T) {
	m := newMaker(14)
	for n := range 600 {
		rank := n%3 + 1
		a, to := m.array(kinds[n%3], m.dims(rank)), m.dims(rank)
		if n%5 == 0 && a.Type == api.TyReal {
			a.Elems[m.IntN(len(a.Elems))] = of("1.0e50")
		}
		for _, kind := range kinds {
			converted := convert(a, kind)
			if kind == a.Type && !converted.is(right(a)) {
				t.Errorf("Convert(%v) to its type = %v", a, converted)
			}
			if converted.e != api.OK {
				if !converted.isNothing() {
					t.Errorf("Convert(%v, %d) = %v", a, kind, converted)
				}
				continue
			}
			resized := converted.then(func(b api.Array) result { return resize(b, to) })
			if r := resize(a, to).then(func(b api.Array) result { return convert(b, kind) }); !r.is(resized) {
				t.Errorf("%v, resized to %v and converted, is %v, not %v", a, to, r, resized)
			}
			if a.Type != api.TyInt {
				continue
			}
			if back := converted.then(func(b api.Array) result { return convert(b, api.TyInt) }); !back.is(right(a)) {
				t.Errorf("%v comes back as %v", a, back)
			}
		}
	}
}

// TestPromise14Limits goes to the greatest magnitudes that come back from reals.
func TestPromise14Limits(t *testing.T) {
	a := arrayOf(dims(0, 7), "16777216 -16777216 16777215 -16777215 0 1 -1 8388609")
	back := convert(a, api.TyReal).then(func(b api.Array) result { return convert(b, api.TyInt) })
	if !back.is(right(a)) {
		t.Errorf("%v comes back as %v", a, back)
	}
}

// TestPromise8First expects the error wherever the first wrong element is.
func TestPromise8First(t *testing.T) {
	for _, d := range [][]api.Dim{dims(1, 1), dims(0, 3), square} {
		for n := range lists(d) {
			a := api.Array{Type: api.TyReal, Dims: d, Elems: slices.Repeat([]api.Value{of("0.5")}, len(lists(d)))}
			a.Elems[n] = of("-1.0e10")
			if r := convert(a, api.TyInt); !r.is(wrong(api.ErrRange)) {
				t.Errorf("Convert(%v) = %v", a, r)
			}
		}
	}
}

// TestPromises5To8Valid looks at all results, which are valid and the same as themselves.
func TestPromises5To8Valid(t *testing.T) {
	m := newMaker(5)
	for n := range 200 {
		rank := n%4 + 1
		a := m.array(kinds[n%3], m.dims(rank))
		s := lists(a.Dims)[m.IntN(len(a.Elems))]
		for _, r := range []result{right(a), create(a.Type, a.Dims), set(a, s, m.value(a.Type)), resize(a, m.dims(rank)), convert(a, kinds[m.IntN(2)])} {
			if r.e == api.OK && (array.Check(r.a) != api.OK || !array.Same(r.a, r.a)) {
				t.Errorf("%v is not valid", r)
			}
		}
	}
}
