package array

import (
	"iter"
	"slices"

	"manorboy/api"
)

// shape is dimensions as a value that can be compared. Behind the last dimension are such from 0 to 0, which change no size and no offset.
type shape struct {
	rank int
	dims [api.MaxDims]api.Dim
}

// list is a subscript list, with zeros behind its end.
type list [api.MaxDims]int

// form says that an offset is the origin plus the sum of the products of the subscripts with the strides.
type form struct {
	strides [api.MaxDims]int
	origin  int
}

// proper returns the shape of proper dimensions, or their error.
func proper(dims []api.Dim) (shape, api.Errno) {
	if len(dims) < 1 || len(dims) > api.MaxDims || slices.ContainsFunc(dims, isTooGreat) {
		return shape{}, api.ErrArg
	}
	s := shape{rank: len(dims)}
	copy(s.dims[:], dims)
	size := 1
	for _, n := range s.sizes() {
		// A product of all sizes at once could be too great for an int.
		if n == 0 || n > api.MaxElems/size {
			return shape{}, api.ErrRange
		}
		size *= n
	}
	return s, api.OK
}

func isTooGreat(d api.Dim) bool {
	return min(d.Lo, d.Hi) < -api.MaxInt || max(d.Lo, d.Hi) > api.MaxInt
}

// sizes returns how many subscripts each dimension has.
func (s shape) sizes() [api.MaxDims]int {
	var sizes [api.MaxDims]int
	for i, d := range s.dims {
		sizes[i] = max(d.Hi-d.Lo+1, 0)
	}
	return sizes
}

// size returns how many subscript lists are in bounds.
func (s shape) size() int {
	product := 1
	for _, n := range s.sizes() {
		product *= n
	}
	return product
}

func (s shape) form() form {
	var f form
	stride := 1
	sizes := s.sizes()
	for i, n := range slices.Backward(sizes[:]) {
		f.strides[i] = stride
		f.origin -= stride * s.dims[i].Lo
		stride *= n
	}
	return f
}

func (f form) offset(l list) int {
	offset := f.origin
	for i, stride := range f.strides {
		offset += stride * l[i]
	}
	return offset
}

// offset returns the offset of a subscript list, or its error.
func (s shape) offset(subs []int) (int, api.Errno) {
	if len(subs) != s.rank {
		return 0, api.ErrKind
	}
	var l list
	copy(l[:], subs)
	for i, d := range s.dims {
		if l[i] < d.Lo || l[i] > d.Hi {
			return 0, api.ErrRange
		}
	}
	return s.form().offset(l), api.OK
}

// list returns the subscript list with an offset, which needs to be one.
func (s shape) list(offset int) list {
	var l list
	sizes := s.sizes()
	for i, n := range slices.Backward(sizes[:]) {
		l[i] = s.dims[i].Lo + offset%n
		offset /= n
	}
	return l
}

// lists yields the subscript lists in bounds, in their order.
func (s shape) lists() iter.Seq[list] {
	return func(yield func(list) bool) {
		for offset := range s.size() {
			if !yield(s.list(offset)) {
				return
			}
		}
	}
}

// common returns the shape of the subscript lists that are in bounds of both shapes, which need as many dimensions. Its size is 0 if there are none.
func (s shape) common(other shape) shape {
	for i, d := range other.dims {
		s.dims[i].Lo = max(s.dims[i].Lo, d.Lo)
		s.dims[i].Hi = min(s.dims[i].Hi, d.Hi)
	}
	return s
}
