package integer

import (
	"cmp"
	"iter"
	"slices"

	"manorboy/api"
)

// ValidSpan reports whether a span is valid: I12.
func ValidSpan(s api.Span) bool { return bothValid(s.Lo, s.Hi) && s.Lo <= s.Hi }

func bothValidSpans(a, b api.Span) bool { return ValidSpan(a) && ValidSpan(b) }

// pairs goes over the pairs of an end of a and an end of b.
func pairs(a, b api.Span) iter.Seq2[int, int] {
	return func(yield func(int, int) bool) {
		for _, x := range [2]int{a.Lo, a.Hi} {
			for _, y := range [2]int{b.Lo, b.Hi} {
				if !yield(x, y) {
					return
				}
			}
		}
	}
}

// reach returns the span from the least to the greatest result of an operation on members of a and b. It looks at the ends alone, so with one operand fixed the results have to rise or fall throughout as the other one grows.
func reach(a, b api.Span, operation func(x, y int) int) api.Span {
	var results [4]int
	many := 0
	for x, y := range pairs(a, b) {
		results[many] = operation(x, y)
		many++
	}
	return api.Span{Lo: slices.Min(results[:]), Hi: slices.Max(results[:])}
}

// within cuts off what is out of range, and reports whether there was anything to cut off.
func within(s api.Span) (api.Span, bool, api.Errno) {
	if s.Lo > api.MaxInt || s.Hi < -api.MaxInt {
		return api.Span{}, false, api.ErrRange
	}
	cut := api.Span{Lo: max(s.Lo, -api.MaxInt), Hi: min(s.Hi, api.MaxInt)}
	return cut, cut != s, api.OK
}

// ranged is what the operations have in common whose results can be out of range.
func ranged(a, b api.Span, operation func(x, y int) int) (api.Span, bool, api.Errno) {
	if !bothValidSpans(a, b) {
		return api.Span{}, false, api.ErrArg
	}
	return within(reach(a, b, operation))
}

// SpanNeg returns the span of all opposites: I13.
func SpanNeg(a api.Span) (api.Span, api.Errno) {
	if !ValidSpan(a) {
		return api.Span{}, api.ErrArg
	}
	return api.Span{Lo: -a.Hi, Hi: -a.Lo}, api.OK
}

// SpanAdd returns the span of all sums, and whether some sum is out of range: I14.
func SpanAdd(a, b api.Span) (s api.Span, may bool, e api.Errno) {
	return ranged(a, b, func(x, y int) int { return x + y })
}

// SpanSub returns the span of all differences, and whether some difference is out of range: I14.
func SpanSub(a, b api.Span) (s api.Span, may bool, e api.Errno) {
	return ranged(a, b, func(x, y int) int { return x - y })
}

// SpanMul returns the span of all products, and whether some product is out of range: I14.
func SpanMul(a, b api.Span) (s api.Span, may bool, e api.Errno) {
	return ranged(a, b, func(x, y int) int { return x * y })
}

// SpanQuo returns the span of all quotients, and whether some divisor is 0: I15.
func SpanQuo(a, b api.Span) (s api.Span, may bool, e api.Errno) {
	if !bothValidSpans(a, b) {
		return api.Span{}, false, api.ErrArg
	}
	if b.Lo == 0 && b.Hi == 0 {
		return api.Span{}, false, api.ErrNone
	}
	quotient := func(x, y int) int { return x / y }
	// The quotients jump where the divisor passes 0: the divisors on either side of it have to be looked at by themselves.
	below := api.Span{Lo: b.Lo, Hi: min(b.Hi, -1)}
	above := api.Span{Lo: max(b.Lo, 1), Hi: b.Hi}
	switch {
	case !ValidSpan(below):
		s = reach(a, above, quotient)
	case !ValidSpan(above):
		s = reach(a, below, quotient)
	default:
		s = join(reach(a, below, quotient), reach(a, above, quotient))
	}
	return s, b.Lo <= 0 && b.Hi >= 0, api.OK
}

// SpanCmp returns the span of all results of Cmp: I16.
func SpanCmp(a, b api.Span) (api.Span, api.Errno) {
	if !bothValidSpans(a, b) {
		return api.Span{}, api.ErrArg
	}
	return reach(a, b, cmp.Compare[int]), api.OK
}

// SpanMeet returns the integers that are in both spans: I17.
func SpanMeet(a, b api.Span) (api.Span, api.Errno) {
	if !bothValidSpans(a, b) {
		return api.Span{}, api.ErrArg
	}
	meet := api.Span{Lo: max(a.Lo, b.Lo), Hi: min(a.Hi, b.Hi)}
	if meet.Lo > meet.Hi {
		return api.Span{}, api.ErrNone
	}
	return meet, api.OK
}

// join returns the least span that contains two valid ones.
func join(a, b api.Span) api.Span {
	return api.Span{Lo: min(a.Lo, b.Lo), Hi: max(a.Hi, b.Hi)}
}

// SpanJoin returns the least span that contains both: I17.
func SpanJoin(a, b api.Span) (api.Span, api.Errno) {
	if !bothValidSpans(a, b) {
		return api.Span{}, api.ErrArg
	}
	return join(a, b), api.OK
}
