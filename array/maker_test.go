package array_test

import (
	"math"
	"math/rand/v2"
	"slices"
	"strconv"
	"strings"

	"manorboy/api"
	"manorboy/array"
	"manorboy/real"
)

const top = api.MaxInt

// dims makes dimensions of bounds: of 1, 2, 0, 2 those from 1 to 2 and from 0 to 2.
func dims(bounds ...int) []api.Dim {
	var list []api.Dim
	for pair := range slices.Chunk(bounds, 2) {
		list = append(list, api.Dim{Lo: pair[0], Hi: pair[1]})
	}
	return list
}

// subs makes a subscript list.
func subs(n ...int) []int { return n }

// of makes a value of its text: of true and false a truth value, of a text with a point a real, and of digits an integer.
func of(text string) api.Value {
	if text == "true" || text == "false" {
		return api.Value{Kind: api.TyBool, B: text == "true"}
	}
	if strings.Contains(text, ".") {
		x, e := real.Parse(text)
		if e != api.OK {
			panic(text)
		}
		return api.Value{Kind: api.TyReal, R: x}
	}
	n, err := strconv.Atoi(text)
	if err != nil {
		panic(text)
	}
	return whole(n)
}

func whole(n int) api.Value { return api.Value{Kind: api.TyInt, I: n} }

// arrayOf makes an array of the texts of its elements, with blanks between them, which are of one type.
func arrayOf(bounds []api.Dim, texts string) api.Array {
	a := api.Array{Dims: bounds}
	for _, text := range strings.Fields(texts) {
		a.Elems = append(a.Elems, of(text))
	}
	a.Type = a.Elems[0].Kind
	return a
}

// result is an array, or the error in its place.
type result struct {
	a api.Array
	e api.Errno
}

func got(a api.Array, e api.Errno) result { return result{a, e} }

// right is a result without an error.
func right(a api.Array) result { return result{a, api.OK} }

// wrong is a result with an error.
func wrong(e api.Errno) result { return result{e: e} }

// is compares two results without package array.
func (r result) is(other result) bool {
	return r.e == other.e && r.a.Type == other.a.Type && slices.Equal(r.a.Dims, other.a.Dims) && slices.Equal(r.a.Elems, other.a.Elems)
}

// isNothing reports whether a result is that of an error alone.
func (r result) isNothing() bool { return r.is(wrong(r.e)) }

// then hands the array of a result on, or its error.
func (r result) then(next func(a api.Array) result) result {
	if r.e != api.OK {
		return r
	}
	return next(r.a)
}

func create(kind int, d []api.Dim) result { return got(array.New(kind, d)) }

func set(a api.Array, s []int, v api.Value) result { return got(array.Set(a, s, v)) }

func resize(a api.Array, d []api.Dim) result { return got(array.Resize(a, d)) }

func convert(a api.Array, kind int) result { return got(array.Convert(a, kind)) }

// element is what Get returns.
type element struct {
	v api.Value
	e api.Errno
}

func get(a api.Array, s []int) element {
	v, e := array.Get(a, s)
	return element{v, e}
}

// number is a result that is a number.
type number struct {
	n int
	e api.Errno
}

func offset(d []api.Dim, s []int) number {
	n, e := array.Offset(d, s)
	return number{n, e}
}

// numbers is a result that is a list of numbers.
type numbers struct {
	list []int
	e    api.Errno
}

func (r numbers) is(other numbers) bool { return r.e == other.e && slices.Equal(r.list, other.list) }

func subscripts(d []api.Dim, n int) numbers {
	list, e := array.Subscripts(d, n)
	return numbers{list, e}
}

var (
	// kinds are the types of arrays.
	kinds = []int{api.TyInt, api.TyReal, api.TyBool}
	// noKinds are none of them.
	noKinds = []int{api.TyNone, 4, -1, math.MinInt, math.MaxInt, 1<<32 + 1}
	// square is the chapter's list.
	square = dims(1, 2, 0, 2)
)

// noDims are no lists of dimensions, whether or not their bounds are in order.
var noDims = [][]api.Dim{
	nil, {}, dims(1, 1, 1, 1, 1, 1, 1, 1, 1, 1), dims(2, 1, 1, 1, 1, 1, 1, 1, 1, 1), dims(0, 0, 0, 0, 0, 0, 0, 0, 0, 0, 0, 0),
	dims(1, top+1), dims(-top-1, 1), dims(top+1, top+1), dims(-top-1, -top-1), dims(top+1, 1), dims(1, -top-1), dims(top+1, top), dims(-top, -top-1),
	dims(math.MinInt, 1), dims(1, math.MaxInt), dims(math.MinInt, math.MaxInt), dims(math.MaxInt, math.MinInt), dims(math.MaxInt, math.MaxInt), dims(math.MinInt, math.MinInt), dims(1<<32+1, 1<<32+1),
	dims(1, 2, top+1, top+1), dims(-top-1, -top-1, 1, 2), dims(2, 1, 1, top+1), dims(1, 5000, 1, top+1), dims(top+1, top+1, 2, 1), dims(1, 1, 1, 1, 1, 1, 1, top+1), dims(1, 1, 1, 1, 1, 1, -top-1, 1),
}

// improper are lists of dimensions that are not proper; the last ones have products that are from 1 to 1000 in 64 bits.
var improper = [][]api.Dim{
	dims(5, 4), dims(1, 0), dims(top, -top), dims(0, -1), dims(1, 1001), dims(-500, 500), dims(-top, top), dims(top-1000, top), dims(-top, -top+1000),
	dims(1, 2, 1, 0), dims(1, 0, 1, 2), dims(5, 3, 5, 3), dims(5, 4, 5, 4), dims(3, 1, 1, 5, 3, 1), dims(1, 0, -top, top), dims(-top, top, 1, 0), dims(1, 1, 1, 1, 1, 1, 2, 1), dims(1, 2000, 1, 0),
	dims(1, 2, 1, 501), dims(1, 32, 1, 32), dims(1, 10, 1, 10, 1, 11), dims(1, 6, 1, 6, 1, 6, 1, 6), dims(1, 1, 1, 1, 1, 1, 1, 1001), dims(1, 1, 0, 1000), dims(1, 7, 1, 11, 1, 13),
	dims(1, 1<<16, 1, 1<<16), dims(1, 1<<16, 1, 1<<16, 1, 1<<16, 1, 1<<16), dims(1, 1<<31-1, 1, 2, -1, 1), dims(-top, top, -top, top, -top, top, -top, top), dims(1-1<<30, 1<<30, 1, 4),
	dims(-top, -top+2147483647, -top, -top+2147483647, 1, 4),
	dims(-top, -top+3340214412, -top, -top+2761311369, 1, 2), dims(-top, -top+2747424316, -top, -top+3357097765, 7, 8), dims(-top, -top+1174891960, 1, 19950191, 1, 787), dims(1, 1, -top, -top+521090445, 1, 753197299, 1, 47),
}

// proper are proper dimensions: small ones, and those at the limits.
var proper = [][]api.Dim{
	dims(1, 1), dims(0, 0), dims(-5, -5), dims(1, 3), dims(-1, 1), dims(1, 1000), dims(-999, 0), dims(top, top), dims(-top, -top), dims(top-999, top), dims(-top, -top+999),
	square, dims(1, 1, 1, 1), dims(0, 0, 0, 0), dims(1, 2, 1, 500), dims(1, 500, 1, 2), dims(1, 31, 1, 32), dims(top-9, top, -top, -top+99), dims(-3, -2, 4, 6),
	dims(1, 10, 1, 10, 1, 10), dims(0, 1, -1, 1, 2, 5), dims(top, top, 0, 0, -top, -top), dims(1, 1000, 3, 3, 0, 0),
	dims(1, 5, 1, 5, 1, 5, 1, 8), dims(0, 1, 0, 2, 0, 1, 0, 4), dims(1, 1, 1, 1, 1, 1, 1, 1000), dims(-top, -top, top, top, 0, 0, 7, 7), dims(-2, 0, 0, 1, 5, 5, -1, 2), dims(top-1, top, -top, -top+1, top-1, top, -top, -top+1),
}

// lists returns all subscript lists that are in bounds, in their order: a second reading of the chapter's terms.
func lists(d []api.Dim) [][]int {
	if len(d) == 0 {
		return [][]int{nil}
	}
	var all [][]int
	for n := d[0].Lo; n <= d[0].Hi; n++ {
		for _, rest := range lists(d[1:]) {
			all = append(all, slices.Concat([]int{n}, rest))
		}
	}
	return all
}

// spans are the small dimensions with bounds from 0 to 2.
func spans() []api.Dim { return dims(0, 0, 0, 1, 0, 2, 1, 1, 1, 2, 2, 2) }

// small returns all dimensions of one or two spans.
func small() [][]api.Dim {
	var all [][]api.Dim
	for _, d := range spans() {
		all = append(all, []api.Dim{d})
		for _, other := range spans() {
			all = append(all, []api.Dim{d, other})
		}
	}
	return all
}

// maker makes random dimensions and arrays, the same ones each time.
type maker struct{ *rand.Rand }

func newMaker(seed uint64) maker { return maker{rand.New(rand.NewPCG(8, seed))} }

// dims returns as many dimensions as it is told, near to each other, with at most four subscripts each.
func (m maker) dims(rank int) []api.Dim {
	list := make([]api.Dim, rank)
	for i := range list {
		low := m.IntN(5) - 2
		list[i] = api.Dim{Lo: low, Hi: low + m.IntN(4)}
	}
	return list
}

// value returns a value of a type. Integers, and reals as integers, are valid ones and at most 2^24.
func (m maker) value(kind int) api.Value {
	switch kind {
	case api.TyInt:
		return whole(m.IntN(1<<25+1) - 1<<24)
	case api.TyReal:
		return api.Value{Kind: kind, R: api.Real{Man: (2*m.IntN(2) - 1) * (1<<23 + m.IntN(1<<23)), Exp: m.IntN(30) - 30}}
	}
	return api.Value{Kind: kind, B: m.IntN(2) == 1}
}

func (m maker) array(kind int, d []api.Dim) api.Array {
	a := api.Array{Type: kind, Dims: d}
	for range lists(d) {
		a.Elems = append(a.Elems, m.value(kind))
	}
	return a
}
