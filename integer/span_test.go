package integer

import (
	"fmt"
	"slices"
	"testing"

	"manorboy/api"
)

type spanOp func(a, b api.Span) (api.Span, bool, api.Errno)

type spanResult struct {
	s   api.Span
	may bool
	e   api.Errno
}

func spanOf(s api.Span, may bool, e api.Errno) spanResult { return spanResult{s, may, e} }

// surely adds to the result of an operation that has just a span and an error that it may not be out of range.
func surely(f func(a, b api.Span) (api.Span, api.Errno)) spanOp {
	return func(a, b api.Span) (api.Span, bool, api.Errno) {
		s, e := f(a, b)
		return s, false, e
	}
}

func at(lo, hi int) api.Span { return api.Span{Lo: lo, Hi: hi} }

// narrow are spans so small that all their members can be tried: around 0, at the ends of the range, and where products leave it.
func narrow() []api.Span {
	var l []api.Span
	for lo := -4; lo <= 4; lo++ {
		for hi := lo; hi <= 4; hi++ {
			l = append(l, at(lo, hi))
		}
	}
	for _, lo := range []int{-top, -46342, 46338, top - 3} {
		for width := range 4 {
			l = append(l, at(lo, lo+width), at(lo+3-width, lo+3))
		}
	}
	return l
}

// wide are spans with edges as ends.
func wide() []api.Span {
	var l []api.Span
	for i, lo := range edges {
		for _, hi := range edges[i:] {
			l = append(l, at(lo, hi))
		}
	}
	return l
}

func badSpans() []api.Span {
	l := []api.Span{at(1, 0), at(top, -top), at(0, -1), at(5, 4)}
	for _, n := range invalid {
		l = append(l, at(n, n), at(min(n, 0), max(n, 0)), at(max(n, 0), min(n, 0)))
	}
	return l
}

// least and greatest exact results, over all members; ok is false if there are none.
func extremes(a, b api.Span, f func(x, y int) (int, bool)) (s api.Span, ok bool) {
	for x := a.Lo; x <= a.Hi; x++ {
		for y := b.Lo; y <= b.Hi; y++ {
			n, defined := f(x, y)
			switch {
			case !defined:
			case !ok:
				s, ok = at(n, n), true
			default:
				s = at(min(s.Lo, n), max(s.Hi, n))
			}
		}
	}
	return s, ok
}

func cut(s api.Span) spanResult {
	if s.Lo > top || s.Hi < -top {
		return spanResult{e: api.ErrRange}
	}
	return spanResult{s: at(max(s.Lo, -top), min(s.Hi, top)), may: s.Lo < -top || s.Hi > top}
}

func exact(f func(x, y int) int) func(x, y int) (int, bool) {
	return func(x, y int) (int, bool) { return f(x, y), true }
}

func TestPromise1SpanExamples(t *testing.T) {
	for _, x := range []struct {
		f    spanOp
		a, b api.Span
		want spanResult
	}{
		{SpanMul, at(-3, 4), at(2, 5), spanResult{s: at(-15, 20)}},
		{SpanMul, at(-3, 2), at(-4, 5), spanResult{s: at(-15, 12)}},
		{SpanMul, at(-top, top), at(-top, top), spanResult{s: at(-top, top), may: true}},
		{SpanMul, at(-2, -2), at(top-1, top), spanResult{e: api.ErrRange}},
		{SpanMul, at(0, 2), at(top, top), spanResult{s: at(0, top), may: true}},
		{SpanAdd, at(0, 2147483647), at(1, 1), spanResult{s: at(1, 2147483647), may: true}},
		{SpanAdd, at(top, top), at(1, 2), spanResult{e: api.ErrRange}},
		{SpanAdd, at(top, top), at(0, 2), spanResult{s: at(top, top), may: true}},
		{SpanAdd, at(-top, -top), at(-2, -1), spanResult{e: api.ErrRange}},
		{SpanAdd, at(-top, top), at(-1, 1), spanResult{s: at(-top, top), may: true}},
		{SpanSub, at(1, 3), at(5, 9), spanResult{s: at(-8, -2)}},
		{SpanSub, at(-top, 0), at(0, 1), spanResult{s: at(-top, 0), may: true}},
		{SpanSub, at(-top, -top), at(1, 1), spanResult{e: api.ErrRange}},
		{SpanQuo, at(-7, 9), at(-2, 3), spanResult{s: at(-9, 9), may: true}},
		{SpanQuo, at(10, 20), at(3, 4), spanResult{s: at(2, 6)}},
		{SpanQuo, at(10, 20), at(0, 4), spanResult{s: at(2, 20), may: true}},
		{SpanQuo, at(10, 20), at(-4, 0), spanResult{s: at(-20, -2), may: true}},
		{SpanQuo, at(10, 20), at(-4, -3), spanResult{s: at(-6, -2)}},
		{SpanQuo, at(-top, top), at(-top, top), spanResult{s: at(-top, top), may: true}},
		{SpanQuo, at(1, 2), at(0, 0), spanResult{e: api.ErrNone}},
		{surely(SpanCmp), at(1, 3), at(3, 4), spanResult{s: at(-1, 0)}},
		{surely(SpanCmp), at(1, 3), at(2, 2), spanResult{s: at(-1, 1)}},
		{surely(SpanCmp), at(5, 6), at(3, 4), spanResult{s: at(1, 1)}},
		{surely(SpanMeet), at(1, 5), at(4, 9), spanResult{s: at(4, 5)}},
		{surely(SpanMeet), at(1, 5), at(5, 9), spanResult{s: at(5, 5)}},
		{surely(SpanMeet), at(1, 2), at(3, 4), spanResult{e: api.ErrNone}},
		{surely(SpanMeet), at(3, 4), at(1, 2), spanResult{e: api.ErrNone}},
		{surely(SpanJoin), at(1, 2), at(7, 8), spanResult{s: at(1, 8)}},
		{surely(SpanJoin), at(1, 9), at(7, 8), spanResult{s: at(1, 9)}},
	} {
		if got := spanOf(x.f(x.a, x.b)); got != x.want {
			t.Errorf("%v, %v: %v, not %v", x.a, x.b, got, x.want)
		}
	}
}

func TestPromise1SpanNeg(t *testing.T) {
	for _, s := range wide() {
		if got, e := SpanNeg(s); got != at(-s.Hi, -s.Lo) || e != api.OK {
			t.Errorf("SpanNeg(%v) = %v, %d", s, got, e)
		}
	}
}

func TestPromise1ValidSpan(t *testing.T) {
	for _, s := range wide() {
		if !ValidSpan(s) {
			t.Errorf("%v is not valid", s)
		}
	}
	for _, s := range badSpans() {
		if ValidSpan(s) {
			t.Errorf("%v is valid", s)
		}
	}
}

// TestPromise1SpanErrArg checks that an invalid span is the first error, whatever else is wrong.
func TestPromise1SpanErrArg(t *testing.T) {
	wrong := spanResult{e: api.ErrArg}
	operations := []spanOp{SpanAdd, SpanSub, SpanMul, SpanQuo, surely(SpanCmp), surely(SpanMeet), surely(SpanJoin)}
	for _, bad := range badSpans() {
		if got, e := SpanNeg(bad); got != at(0, 0) || e != api.ErrArg {
			t.Errorf("SpanNeg(%v) = %v, %d", bad, got, e)
		}
		for i, f := range operations {
			for _, other := range []api.Span{at(0, 0), at(1, 1), at(top, top), at(-top, -top), bad} {
				if got := spanOf(f(bad, other)); got != wrong {
					t.Errorf("operation %d of %v, %v = %v", i, bad, other, got)
				}
				if got := spanOf(f(other, bad)); got != wrong {
					t.Errorf("operation %d of %v, %v = %v", i, other, bad, got)
				}
			}
		}
	}
}

// TestPromise1SpansTried compares with what comes out if all members are tried.
func TestPromise1SpansTried(t *testing.T) {
	quotient := func(x, y int) (int, bool) {
		n, e := Quo(x, y)
		return n, e == api.OK
	}
	order := func(x, y int) (int, bool) {
		n, e := Cmp(x, y)
		return n, e == api.OK
	}
	for _, a := range narrow() {
		for _, b := range narrow() {
			sums, _ := extremes(a, b, exact(func(x, y int) int { return x + y }))
			checkSpan(t, "SpanAdd", SpanAdd, a, b, cut(sums))
			differences, _ := extremes(a, b, exact(func(x, y int) int { return x - y }))
			checkSpan(t, "SpanSub", SpanSub, a, b, cut(differences))
			products, _ := extremes(a, b, exact(func(x, y int) int { return x * y }))
			checkSpan(t, "SpanMul", SpanMul, a, b, cut(products))
			orders, _ := extremes(a, b, order)
			checkSpan(t, "SpanCmp", surely(SpanCmp), a, b, spanResult{s: orders})
			quotients, some := extremes(a, b, quotient)
			want := spanResult{s: quotients, may: b.Lo <= 0 && b.Hi >= 0}
			if !some {
				want = spanResult{e: api.ErrNone}
			}
			checkSpan(t, "SpanQuo", SpanQuo, a, b, want)
		}
	}
}

func checkSpan(t *testing.T, name string, f spanOp, a, b api.Span, want spanResult) {
	t.Helper()
	if got := spanOf(f(a, b)); got != want {
		t.Errorf("%s(%v, %v) = %v, not %v", name, a, b, got, want)
	}
}

// members returns some members of a span: its ends, those next to them, and the edges in it.
func members(s api.Span) []int {
	l := []int{s.Lo, s.Hi, min(s.Lo+1, s.Hi), max(s.Hi-1, s.Lo), (s.Lo + s.Hi) / 2}
	for _, n := range edges {
		if has(s, n) {
			l = append(l, n)
		}
	}
	slices.Sort(l)
	return slices.Compact(l)
}

func has(s api.Span, n int) bool { return s.Lo <= n && n <= s.Hi }

// some are spans with ends far apart and near, few enough that all pairs can be looked at.
func some() []api.Span {
	var l []api.Span
	for i, s := range wide() {
		if i%5 == 0 {
			l = append(l, s)
		}
	}
	return append(l, at(-top, top), at(0, 0), at(-1, 1), at(0, top), at(-top, 0), at(top, top), at(-top, -top), at(1, 1))
}

func TestPromise8SpansContain(t *testing.T) {
	for _, x := range []struct {
		name string
		on   spanOp
		of   binary
	}{
		{"Add", SpanAdd, Add}, {"Sub", SpanSub, Sub}, {"Mul", SpanMul, Mul}, {"Quo", SpanQuo, Quo}, {"Cmp", surely(SpanCmp), Cmp},
	} {
		for _, a := range some() {
			for _, b := range some() {
				s := spanOf(x.on(a, b))
				if problem := escapes(s, a, b, x.of); problem != "" {
					t.Fatalf("Span%s(%v, %v) = %v: %s", x.name, a, b, s, problem)
				}
			}
		}
	}
	for _, a := range some() {
		s, e := SpanNeg(a)
		for _, n := range members(a) {
			if e != api.OK || !has(s, -n) {
				t.Errorf("SpanNeg(%v) = %v, %d", a, s, e)
			}
		}
	}
}

// escapes tells which result of members is not allowed for by the result of the operation on the spans.
func escapes(s spanResult, a, b api.Span, f binary) string {
	for _, n := range members(a) {
		for _, m := range members(b) {
			r := of(f(n, m))
			allowed := s.may || s.e == r.e
			if r.e == api.OK {
				allowed = s.e == api.OK && has(s.s, r.n)
			}
			if !allowed {
				return fmt.Sprint("members ", n, " and ", m, " give ", r)
			}
		}
	}
	return ""
}

func TestPromise9SpansAreTight(t *testing.T) {
	for _, x := range []struct {
		name string
		on   spanOp
		of   binary
	}{
		{"Add", SpanAdd, Add}, {"Sub", SpanSub, Sub}, {"Mul", SpanMul, Mul}, {"Quo", SpanQuo, Quo}, {"Cmp", surely(SpanCmp), Cmp},
	} {
		for _, a := range slices.Concat(narrow(), some()) {
			for _, b := range slices.Concat(narrow(), some()) {
				s := spanOf(x.on(a, b))
				low, high, out, all := tightness(s.s, a, b, x.of)
				inner := x.name == "Quo" || x.name == "Cmp" || !s.may
				if s.e == api.OK && inner && !(low && high) || s.may && !out || s.e != api.OK && !all {
					t.Fatalf("Span%s(%v, %v) = %v", x.name, a, b, s)
				}
			}
		}
	}
}

// tightness tells whether some members have the ends of a span as results, whether the operation of some has an error, and whether that of all has.
func tightness(s, a, b api.Span, f binary) (low, high, out, all bool) {
	all = true
	for _, n := range members(a) {
		for _, m := range slices.Concat(members(b), []int{-1, 1}) {
			if !has(b, m) {
				continue
			}
			r := of(f(n, m))
			low = low || r == result{s.Lo, api.OK}
			high = high || r == result{s.Hi, api.OK}
			out = out || r.e != api.OK
			all = all && r.e != api.OK
		}
	}
	return low, high, out, all
}

func TestPromise10Sets(t *testing.T) {
	spans := slices.Concat(narrow(), some())
	for _, a := range spans {
		for _, b := range spans {
			checkSets(t, a, b)
		}
	}
}

func checkSets(t *testing.T, a, b api.Span) {
	t.Helper()
	meet, none := SpanMeet(a, b)
	join, e := SpanJoin(a, b)
	if none != api.OK && (none != api.ErrNone || meet != at(0, 0)) || e != api.OK {
		t.Errorf("%v, %v: %v, %d; %v, %d", a, b, meet, none, join, e)
	}
	for _, n := range slices.Concat(members(a), members(b), []int{a.Lo - 1, a.Hi + 1, b.Lo - 1, b.Hi + 1}) {
		if (has(a, n) && has(b, n)) != (none == api.OK && has(meet, n)) {
			t.Errorf("SpanMeet(%v, %v) = %v, %d; %d", a, b, meet, none, n)
		}
		if (has(a, n) || has(b, n)) && !has(join, n) {
			t.Errorf("SpanJoin(%v, %v) = %v lacks %d", a, b, join, n)
		}
	}
	// A span that has all members of both has the ends of the least one, if these are members of a or of b.
	if !has(a, join.Lo) && !has(b, join.Lo) || !has(a, join.Hi) && !has(b, join.Hi) {
		t.Errorf("SpanJoin(%v, %v) = %v is too great", a, b, join)
	}
}
