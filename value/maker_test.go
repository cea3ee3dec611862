package value_test

import (
	"math"
	"math/rand/v2"
	"slices"
	"strconv"
	"strings"

	"manorboy/api"
	"manorboy/real"
	"manorboy/value"
)

const top = api.MaxInt

func whole(n int) api.Value { return api.Value{Kind: api.TyInt, I: n} }

func broken(x api.Real) api.Value { return api.Value{Kind: api.TyReal, R: x} }

func truth(b bool) api.Value { return api.Value{Kind: api.TyBool, B: b} }

// of makes a value of its text without package value: of true and false a truth value, of a text with a point a real, and of digits an integer.
func of(text string) api.Value {
	if text == "true" || text == "false" {
		return truth(text == "true")
	}
	if strings.Contains(text, ".") {
		x, e := real.Parse(text)
		if e != api.OK {
			panic(text)
		}
		return broken(x)
	}
	n, err := strconv.Atoi(text)
	if err != nil {
		panic(text)
	}
	return whole(n)
}

// result is a value, or the error in its place.
type result struct {
	v api.Value
	e api.Errno
}

func got(v api.Value, e api.Errno) result { return result{v, e} }

// right is a result without an error.
func right(v api.Value) result { return result{v, api.OK} }

// wrong is a result with an error.
func wrong(e api.Errno) result { return result{e: e} }

// wanted makes a result of a text: that of the error's name, or of the value.
func wanted(text string) result {
	switch text {
	case "ErrArg":
		return wrong(api.ErrArg)
	case "ErrRange":
		return wrong(api.ErrRange)
	case "ErrNone":
		return wrong(api.ErrNone)
	case "ErrForm":
		return wrong(api.ErrForm)
	case "ErrKind":
		return wrong(api.ErrKind)
	case "ErrType":
		return wrong(api.ErrType)
	}
	return right(of(text))
}

func two(op int, a, b api.Value) result { return got(value.Two(op, a, b)) }

func one(op int, v api.Value) result { return got(value.One(op, v)) }

func convert(kind int, v api.Value) result { return got(value.Convert(kind, v)) }

func call(fn int, v api.Value) result { return got(value.Call(fn, v)) }

// order is what Compare returns.
type order struct {
	n int
	e api.Errno
}

func compare(a, b api.Value) order {
	n, e := value.Compare(a, b)
	return order{n, e}
}

var invalid = []api.Value{
	{}, {I: 1}, {B: true}, {Kind: -1}, {Kind: 4}, {Kind: 4, B: true}, {Kind: math.MinInt}, {Kind: math.MaxInt}, {Kind: 1 << 32},
	{Kind: api.TyInt, I: top + 1}, {Kind: api.TyInt, I: -top - 1}, {Kind: api.TyInt, I: math.MinInt}, {Kind: api.TyInt, I: 1 << 32},
	{Kind: api.TyInt, I: 1, R: api.Real{Man: 1 << 23, Exp: -23}}, {Kind: api.TyInt, R: api.Real{Exp: 1}}, {Kind: api.TyInt, I: 1, B: true}, {Kind: api.TyInt, B: true},
	{Kind: api.TyReal, R: api.Real{Man: 1}}, {Kind: api.TyReal, R: api.Real{Exp: 1}}, {Kind: api.TyReal, R: api.Real{Man: 1 << 24}}, {Kind: api.TyReal, R: api.Real{Man: 1 << 23, Exp: 151}},
	{Kind: api.TyReal, I: 1}, {Kind: api.TyReal, B: true}, {Kind: api.TyReal, I: 1, R: api.Real{Man: 1 << 23, Exp: -23}}, {Kind: api.TyReal, R: api.Real{Man: 1 << 23, Exp: -23}, B: true},
	{Kind: api.TyBool, I: 1}, {Kind: api.TyBool, I: 1, B: true}, {Kind: api.TyBool, R: api.Real{Man: 1 << 23, Exp: -23}}, {Kind: api.TyBool, R: api.Real{Exp: 1}, B: true},
}

// integers are ordinary ones, and those near which something changes.
var integers = []api.Value{
	whole(-top), whole(-top + 1), whole(-1 << 30), whole(-1<<24 - 1), whole(-1 << 24), whole(-46341), whole(-46340), whole(-7), whole(-3), whole(-2), whole(-1),
	whole(0), whole(1), whole(2), whole(3), whole(5), whole(10), whole(31), whole(46340), whole(46341), whole(1<<24 - 1), whole(1 << 24), whole(1<<24 + 1), whole(1 << 30), whole(top - 1), whole(top),
}

var reals = []api.Value{
	of("-2.3e52"), of("-2147483648.0"), of("-2147483520.0"), of("-16777216.0"), of("-7.0"), of("-2.5"), of("-2.0"), of("-1.5"), of("-1.0"), of("-0.5"), of("-0.4"), of("-7.0e-46"),
	of("0.0"), of("7.0e-46"), of("1.0e-30"), of("0.1"), of("0.49999997"), of("0.5"), of("0.9999999"), of("1.0"), of("1.0000001"), of("1.5"), of("2.0"), of("2.5"), of("3.0"), of("3.5"), of("1000.0"),
	of("16777215.0"), of("16777216.0"), of("16777218.0"), of("2147483520.0"), of("2147483648.0"), of("1.0e20"), of("1.0e30"), of("2.0e52"), broken(api.Real{Man: 1<<24 - 1, Exp: api.MaxExp}),
}

var truths = []api.Value{truth(false), truth(true)}

var numbers = slices.Concat(integers, reals)

var values = slices.Concat(numbers, truths)

// sample returns n numbers, the same ones each time: small and great integers, reals near to 1, and any reals.
func sample(n int) []api.Value {
	source := rand.New(rand.NewPCG(7, uint64(n)))
	list := make([]api.Value, n)
	for i := range list {
		switch i % 4 {
		case 0:
			list[i] = whole(source.IntN(41) - 20)
		case 1:
			list[i] = whole(source.IntN(2*top+1) - top)
		case 2:
			list[i] = broken(api.Real{Man: sign(source) * (1<<23 + source.IntN(1<<23)), Exp: source.IntN(40) - 40})
		default:
			list[i] = broken(api.Real{Man: sign(source) * (1<<23 + source.IntN(1<<23)), Exp: source.IntN(2*api.MaxExp+1) - api.MaxExp})
		}
	}
	return list
}

func sign(source *rand.Rand) int { return 2*source.IntN(2) - 1 }

// operators are those on two operands.
func operators() []int {
	var list []int
	for op := api.OpAdd; op <= api.OpEqv; op++ {
		list = append(list, op)
	}
	return list
}
