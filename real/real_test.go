package real

import (
	"math"
	"math/big"
	"math/rand/v2"
	"slices"
	"testing"

	"manorboy/api"
)

type result struct {
	x api.Real
	e api.Errno
}

type number struct {
	n int
	e api.Errno
}

type (
	unary  func(x api.Real) (api.Real, api.Errno)
	binary func(x, y api.Real) (api.Real, api.Errno)
)

func of(x api.Real, e api.Errno) result { return result{x, e} }

func count(n int, e api.Errno) number { return number{n, e} }

// two returns 2^n, for an n from -150 to 173.
func two(n int) api.Real {
	if n < api.MinExp+23 {
		return api.Real{Man: 1 << (n - api.MinExp), Exp: api.MinExp}
	}
	return api.Real{Man: 1 << 23, Exp: n - 23}
}

var (
	zero     = api.Real{}
	least    = api.Real{Man: 1, Exp: -150}
	greatest = api.Real{Man: 1<<24 - 1, Exp: 150}
)

// edges are reals near which something changes, and some ordinary ones, each with both signs.
var edges = both(
	zero, least, api.Real{Man: 2, Exp: -150}, api.Real{Man: 3, Exp: -150}, api.Real{Man: 1<<22 + 1, Exp: -150},
	api.Real{Man: 1<<23 - 1, Exp: -150}, api.Real{Man: 1 << 23, Exp: -150}, api.Real{Man: 1<<23 + 1, Exp: -150},
	api.Real{Man: 1<<24 - 1, Exp: -150}, api.Real{Man: 1 << 23, Exp: -149}, api.Real{Man: 1<<23 + 1, Exp: -149},
	two(-76), two(-75), api.Real{Man: 11863283, Exp: -99}, two(-64), two(-30), two(-25), two(-24), two(-23),
	api.Real{Man: 13421773, Exp: -27}, api.Real{Man: 11184811, Exp: -25}, api.Real{Man: 1<<24 - 1, Exp: -25},
	two(-1), api.Real{Man: 1<<23 + 1, Exp: -24}, api.Real{Man: 1<<24 - 1, Exp: -24},
	two(0), api.Real{Man: 1<<23 + 1, Exp: -23}, api.Real{Man: 1<<23 + 2, Exp: -23}, api.Real{Man: 3 << 22, Exp: -23},
	two(1), api.Real{Man: 5 << 21, Exp: -22}, api.Real{Man: 10485760, Exp: -20}, api.Real{Man: 1<<24 - 1, Exp: -1},
	api.Real{Man: 1<<24 - 1, Exp: 0}, two(24), api.Real{Man: 1<<23 + 1, Exp: 1}, two(30), two(31),
	api.Real{Man: 1<<24 - 1, Exp: 7}, api.Real{Man: 9765625, Exp: 10}, two(86), two(87), api.Real{Man: 1<<24 - 1, Exp: 63},
	two(172), two(173), api.Real{Man: 1<<23 + 1, Exp: 150}, api.Real{Man: 1<<24 - 2, Exp: 150}, greatest,
)

func both(list ...api.Real) []api.Real {
	for _, x := range slices.Clone(list) {
		if x != zero {
			list = append(list, api.Real{Man: -x.Man, Exp: x.Exp})
		}
	}
	return list
}

// invalid are no reals.
var invalid = []api.Real{
	{Man: 0, Exp: 1}, {Man: 0, Exp: -1}, {Man: 0, Exp: -150}, {Man: 0, Exp: 150},
	{Man: 1, Exp: 0}, {Man: -1, Exp: 0}, {Man: 1, Exp: -149}, {Man: -1, Exp: -149}, {Man: 1, Exp: -151},
	{Man: 1<<23 - 1, Exp: -149}, {Man: 1<<23 - 1, Exp: 150}, {Man: -(1<<23 - 1), Exp: 0},
	{Man: 1 << 24, Exp: 0}, {Man: -1 << 24, Exp: 0}, {Man: 1 << 24, Exp: -150}, {Man: -1 << 24, Exp: -150},
	{Man: 1 << 24, Exp: 150}, {Man: 1<<24 + 1, Exp: 3},
	{Man: 1 << 23, Exp: -151}, {Man: -1 << 23, Exp: -151}, {Man: 1 << 23, Exp: 151}, {Man: -1 << 23, Exp: 151},
	{Man: math.MinInt, Exp: 0}, {Man: math.MaxInt, Exp: 0}, {Man: math.MinInt, Exp: -150},
	{Man: 1 << 23, Exp: math.MinInt}, {Man: 1 << 23, Exp: math.MaxInt}, {Man: math.MinInt, Exp: math.MinInt},
	{Man: 1<<32 + 1<<23, Exp: 0}, {Man: 1 << 23, Exp: 1 << 32},
}

// sample returns n reals, the same ones each time: by turns any one, one that is near to 1, and one of the least ones.
func sample(n int) []api.Real {
	source := rand.New(rand.NewPCG(2, uint64(n)))
	list := make([]api.Real, n)
	for i := range list {
		switch i % 3 {
		case 0:
			list[i] = made(source.IntN(2*api.MaxIndex+1) - api.MaxIndex)
		case 1:
			list[i] = made(128<<23 + source.IntN(1<<27) - 1<<26)
		default:
			list[i] = made(source.IntN(1<<25) - 1<<24)
		}
	}
	return list
}

// made returns the real with an index, as the definition says: the index grows by 1 from each mantissa to the next one.
func made(index int) api.Real {
	if index < 0 {
		x := made(-index)
		return api.Real{Man: -x.Man, Exp: x.Exp}
	}
	if index == 0 {
		return zero
	}
	for exp := 0; ; exp++ {
		if man := index - exp<<23; man < 1<<24 {
			return api.Real{Man: man, Exp: exp + api.MinExp}
		}
	}
}

func power2(n int) *big.Rat {
	p := new(big.Int).Lsh(big.NewInt(1), uint(max(n, -n)))
	if n < 0 {
		return new(big.Rat).SetFrac(big.NewInt(1), p)
	}
	return new(big.Rat).SetInt(p)
}

// rat returns the number itself.
func rat(x api.Real) *big.Rat {
	return new(big.Rat).Mul(big.NewRat(int64(x.Man), 1), power2(x.Exp))
}

// nearest returns what a function returns whose exact result is q.
func nearest(q *big.Rat) result {
	// From this magnitude on there is no rounded value.
	limit := new(big.Rat).Mul(big.NewRat(1<<25-1, 2), power2(150))
	magnitude := new(big.Rat).Abs(q)
	if magnitude.Cmp(limit) >= 0 {
		return result{zero, api.ErrRange}
	}
	exp := max(q.Num().BitLen()-q.Denom().BitLen()-25, api.MinExp)
	for magnitude.Cmp(power2(exp+24)) >= 0 {
		exp++
	}
	// Around the magnitude, the reals are the multiples of 2^exp.
	scaled := magnitude.Mul(magnitude, power2(-exp))
	floor := new(big.Int).Quo(scaled.Num(), scaled.Denom())
	man := int(floor.Int64())
	switch scaled.Sub(scaled, new(big.Rat).SetInt(floor)).Cmp(big.NewRat(1, 2)) {
	case 0:
		man += man % 2
	case 1:
		man++
	}
	if man == 0 {
		return result{zero, api.OK}
	}
	if man == 1<<24 {
		man, exp = 1<<23, exp+1
	}
	return result{api.Real{Man: man * q.Sign(), Exp: exp}, api.OK}
}

func TestPromise1Valid(t *testing.T) {
	for _, x := range slices.Concat(edges, sample(3000)) {
		if !Valid(x) {
			t.Errorf("Valid(%v) is false", x)
		}
	}
	for _, x := range invalid {
		if Valid(x) {
			t.Errorf("Valid(%v) is true", x)
		}
	}
}

func TestPromise1FromInt(t *testing.T) {
	for n, want := range map[int]api.Real{
		0: zero, 1: {Man: 1 << 23, Exp: -23}, -1: {Man: -1 << 23, Exp: -23}, 3: {Man: 3 << 22, Exp: -22},
		16777215: {Man: 16777215, Exp: 0}, 16777216: {Man: 8388608, Exp: 1},
		16777217: {Man: 8388608, Exp: 1}, 16777219: {Man: 8388610, Exp: 1}, -16777219: {Man: -8388610, Exp: 1},
		33554431: {Man: 8388608, Exp: 2}, math.MaxInt: {Man: 1 << 23, Exp: 40}, math.MinInt: {Man: -1 << 23, Exp: 40},
	} {
		if got := FromInt(n); got != want {
			t.Errorf("FromInt(%d) = %v, not %v", n, got, want)
		}
	}
	for shift := range 64 {
		for _, n := range []int{1 << shift, 1<<shift - 1, 1<<shift + 1, -1 << shift, 0x5555555555555555 >> shift, 0x6aaaaac000000000 >> shift} {
			if got, want := FromInt(n), nearest(big.NewRat(int64(n), 1)).x; got != want {
				t.Errorf("FromInt(%d) = %v, not %v", n, got, want)
			}
		}
	}
}

func TestPromise2Index(t *testing.T) {
	for _, x := range []struct {
		x     api.Real
		index int
	}{
		{zero, 0}, {least, 1}, {api.Real{Man: -1, Exp: -150}, -1},
		{api.Real{Man: 1<<23 - 1, Exp: -150}, 1<<23 - 1}, {api.Real{Man: 1 << 23, Exp: -150}, 1 << 23},
		{api.Real{Man: 1<<24 - 1, Exp: -150}, 1<<24 - 1}, {api.Real{Man: 1 << 23, Exp: -149}, 1 << 24},
		{two(0), 128 << 23}, {api.Real{Man: -1 << 23, Exp: -23}, -128 << 23},
		{greatest, api.MaxIndex}, {api.Real{Man: -(1<<24 - 1), Exp: 150}, -api.MaxIndex},
	} {
		if got := count(Index(x.x)); got != (number{x.index, api.OK}) {
			t.Errorf("Index(%v) = %v, not %d", x.x, got, x.index)
		}
		if got := of(At(x.index)); got != (result{x.x, api.OK}) {
			t.Errorf("At(%d) = %v, not %v", x.index, got, x.x)
		}
	}
	for _, index := range []int{api.MaxIndex + 1, -api.MaxIndex - 1, 1 << 40, math.MaxInt, math.MinInt} {
		if got := of(At(index)); got != (result{zero, api.ErrArg}) {
			t.Errorf("At(%d) = %v", index, got)
		}
	}
}

func TestPromise2Next(t *testing.T) {
	for _, x := range []struct{ x, next api.Real }{
		{zero, least}, {api.Real{Man: -1, Exp: -150}, zero}, {least, api.Real{Man: 2, Exp: -150}},
		{api.Real{Man: 1<<23 - 1, Exp: -150}, api.Real{Man: 1 << 23, Exp: -150}},
		{api.Real{Man: 1<<24 - 1, Exp: -150}, api.Real{Man: 1 << 23, Exp: -149}},
		{api.Real{Man: 1<<24 - 1, Exp: 7}, api.Real{Man: 1 << 23, Exp: 8}},
		{api.Real{Man: -1 << 23, Exp: 8}, api.Real{Man: -(1<<24 - 1), Exp: 7}},
		{api.Real{Man: -1 << 23, Exp: -150}, api.Real{Man: -(1<<23 - 1), Exp: -150}},
		{api.Real{Man: 1<<24 - 2, Exp: 150}, greatest},
	} {
		if got := of(Next(x.x)); got != (result{x.next, api.OK}) {
			t.Errorf("Next(%v) = %v, not %v", x.x, got, x.next)
		}
	}
	if got := of(Next(greatest)); got != (result{zero, api.ErrRange}) {
		t.Errorf("Next of the greatest real is %v", got)
	}
}

func TestPromise3OneOperand(t *testing.T) {
	for _, x := range slices.Concat(edges, sample(300)) {
		negative := api.Real{Man: -x.Man, Exp: x.Exp}
		magnitude, sign := x, 1
		if x.Man < 0 {
			magnitude, sign = negative, -1
		} else if x == zero {
			sign = 0
		}
		if got := of(Neg(x)); got != (result{negative, api.OK}) {
			t.Errorf("Neg(%v) = %v", x, got)
		}
		if got := of(Abs(x)); got != (result{magnitude, api.OK}) {
			t.Errorf("Abs(%v) = %v", x, got)
		}
		if got := count(Sign(x)); got != (number{sign, api.OK}) {
			t.Errorf("Sign(%v) = %v", x, got)
		}
	}
}

func TestPromise3Cmp(t *testing.T) {
	list := slices.Concat(edges, sample(60))
	for _, x := range list {
		for _, y := range list {
			if got := count(Cmp(x, y)); got != (number{rat(x).Cmp(rat(y)), api.OK}) {
				t.Errorf("Cmp(%v, %v) = %v", x, y, got)
			}
		}
	}
}

func checkBinary(t *testing.T, name string, f binary, x, y api.Real, want result) {
	t.Helper()
	if got := of(f(x, y)); got != want {
		t.Errorf("%s(%v, %v) = %v, not %v", name, x, y, got, want)
	}
}

// checkFour compares with exact numbers.
func checkFour(t *testing.T, x, y api.Real) {
	t.Helper()
	a, b := rat(x), rat(y)
	checkBinary(t, "Add", Add, x, y, nearest(new(big.Rat).Add(a, b)))
	checkBinary(t, "Sub", Sub, x, y, nearest(new(big.Rat).Sub(a, b)))
	checkBinary(t, "Mul", Mul, x, y, nearest(new(big.Rat).Mul(a, b)))
	if y == zero {
		checkBinary(t, "Div", Div, x, y, result{zero, api.ErrNone})
		return
	}
	checkBinary(t, "Div", Div, x, y, nearest(new(big.Rat).Quo(a, b)))
}

func TestPromise4Edges(t *testing.T) {
	for _, x := range edges {
		for _, y := range edges {
			checkFour(t, x, y)
		}
	}
}

func TestPromise4Sample(t *testing.T) {
	list := sample(6000)
	for i, x := range list {
		checkFour(t, x, list[(i+1)%len(list)])
		checkFour(t, x, list[(i+3)%len(list)])
	}
}

// TestPromise4Gaps adds numbers that are further and further apart.
func TestPromise4Gaps(t *testing.T) {
	for _, x := range []api.Real{{Man: 1 << 23, Exp: 0}, {Man: 1<<23 + 1, Exp: 0}, {Man: 1<<24 - 1, Exp: 0}, {Man: -1 << 23, Exp: 0}} {
		for exp := -80; exp <= 80; exp++ {
			for _, man := range []int{1 << 23, 1<<23 + 1, 3 << 22, 1<<24 - 1} {
				checkFour(t, x, api.Real{Man: man, Exp: exp})
				checkFour(t, x, api.Real{Man: -man, Exp: exp})
			}
		}
	}
}

func TestPromise4Examples(t *testing.T) {
	for _, x := range []struct {
		name string
		f    binary
		x, y api.Real
		want result
	}{
		{"Add", Add, two(0), two(-24), result{two(0), api.OK}},
		{"Add", Add, api.Real{Man: 1<<23 + 1, Exp: -23}, two(-24), result{api.Real{Man: 1<<23 + 2, Exp: -23}, api.OK}},
		{"Sub", Sub, api.Real{Man: 1<<23 + 1, Exp: -149}, two(-126), result{api.Real{Man: 2, Exp: -150}, api.OK}},
		{"Div", Div, two(0), api.Real{Man: 3 << 22, Exp: -22}, result{api.Real{Man: 11184811, Exp: -25}, api.OK}},
		{"Add", Add, greatest, two(148), result{greatest, api.OK}},
		{"Add", Add, greatest, two(149), result{zero, api.ErrRange}},
		{"Add", Add, greatest, api.Real{Man: 1<<24 - 1, Exp: 125}, result{greatest, api.OK}},
		{"Sub", Sub, api.Real{Man: -(1<<24 - 1), Exp: 150}, two(149), result{zero, api.ErrRange}},
		{"Mul", Mul, greatest, greatest, result{zero, api.ErrRange}},
		{"Mul", Mul, least, two(-1), result{zero, api.OK}},
		{"Mul", Mul, api.Real{Man: 3, Exp: -150}, two(-1), result{api.Real{Man: 2, Exp: -150}, api.OK}},
		{"Mul", Mul, least, least, result{zero, api.OK}},
		{"Div", Div, greatest, least, result{zero, api.ErrRange}},
		{"Div", Div, least, greatest, result{zero, api.OK}},
		{"Div", Div, zero, zero, result{zero, api.ErrNone}},
		{"Div", Div, greatest, zero, result{zero, api.ErrNone}},
	} {
		checkBinary(t, x.name, x.f, x.x, x.y, x.want)
	}
}

// isRoot reports whether r is the rounded value of the square root of x: the squares of the numbers halfway to its neighbours are around x.
func isRoot(x, r api.Real) bool {
	index, _ := Index(r)
	below, above := rat(made(index-1)), rat(made(index+1))
	for _, y := range []*big.Rat{below, above} {
		y.Add(y, rat(r)).Mul(y, big.NewRat(1, 2))
	}
	low, high := below.Mul(below, below).Cmp(rat(x)), above.Mul(above, above).Cmp(rat(x))
	even := r.Man%2 == 0
	return (low < 0 || low == 0 && even) && (high > 0 || high == 0 && even)
}

func TestPromise5Sqrt(t *testing.T) {
	for _, x := range []struct{ x, root api.Real }{
		{zero, zero}, {two(0), two(0)}, {two(2), two(1)}, {two(-150), two(-75)}, {two(172), two(86)},
		{two(1), api.Real{Man: 11863283, Exp: -23}}, {api.Real{Man: 9 << 20, Exp: -20}, api.Real{Man: 3 << 22, Exp: -22}},
	} {
		if got := of(Sqrt(x.x)); got != (result{x.root, api.OK}) {
			t.Errorf("Sqrt(%v) = %v, not %v", x.x, got, x.root)
		}
	}
	for _, x := range slices.Concat(edges, sample(3000)) {
		got := of(Sqrt(x))
		if x.Man < 0 && got != (result{zero, api.ErrNone}) {
			t.Errorf("Sqrt(%v) = %v", x, got)
		}
		if x.Man > 0 && (got.e != api.OK || got.x.Man <= 0 || !isRoot(x, got.x)) {
			t.Errorf("Sqrt(%v) = %v", x, got)
		}
	}
}

// defined returns power(x, n) as the chapter defines it, with exact numbers that are rounded.
func defined(x api.Real, n *big.Int) result {
	if n.Sign() == 0 {
		return result{two(0), api.OK}
	}
	if n.Sign() < 0 {
		y := defined(x, new(big.Int).Neg(n))
		if y.e != api.OK || y.x == zero {
			return result{zero, api.ErrRange}
		}
		return nearest(new(big.Rat).Inv(rat(y.x)))
	}
	if n.Bit(0) == 1 {
		y := defined(x, new(big.Int).Sub(n, big.NewInt(1)))
		if y.e != api.OK {
			return y
		}
		return nearest(new(big.Rat).Mul(rat(x), rat(y.x)))
	}
	y := defined(x, new(big.Int).Rsh(n, 1))
	if y.e != api.OK {
		return y
	}
	return nearest(new(big.Rat).Mul(rat(y.x), rat(y.x)))
}

func TestPromise6Pow(t *testing.T) {
	one, minus := two(0), api.Real{Man: -1 << 23, Exp: -23}
	for _, x := range []struct {
		x    api.Real
		n    int
		want result
	}{
		{two(1), -151, result{zero, api.OK}}, {two(1), -150, result{least, api.OK}}, {two(1), 173, result{two(173), api.OK}},
		{two(1), 174, result{zero, api.ErrRange}}, {two(1), -173, result{zero, api.OK}}, {two(1), -174, result{zero, api.ErrRange}},
		{zero, 0, result{one, api.OK}}, {zero, -1, result{zero, api.ErrNone}}, {zero, 1, result{zero, api.OK}},
		{zero, math.MaxInt, result{zero, api.OK}}, {zero, math.MinInt, result{zero, api.ErrNone}},
		{greatest, 0, result{one, api.OK}}, {greatest, 1, result{greatest, api.OK}}, {greatest, 2, result{zero, api.ErrRange}},
		{greatest, -1, result{zero, api.OK}}, {least, -1, result{two(150), api.OK}},
		{two(-1), 150, result{least, api.OK}}, {two(-1), 151, result{zero, api.OK}}, {two(-1), -150, result{two(150), api.OK}},
		{two(-1), -151, result{zero, api.ErrRange}}, {two(-1), math.MaxInt, result{zero, api.OK}},
		{two(-1), math.MinInt, result{zero, api.ErrRange}}, {two(1), math.MinInt, result{zero, api.ErrRange}},
		{one, math.MinInt, result{one, api.OK}}, {one, math.MaxInt, result{one, api.OK}},
		{minus, math.MinInt, result{one, api.OK}}, {minus, math.MinInt + 1, result{minus, api.OK}}, {minus, math.MaxInt, result{minus, api.OK}},
	} {
		if got := of(Pow(x.x, x.n)); got != x.want {
			t.Errorf("Pow(%v, %d) = %v, not %v", x.x, x.n, got, x.want)
		}
	}
}

func TestPromise6Defined(t *testing.T) {
	exponents := []int{-1 << 40, -12345, -1000, 1000, 12345, 1 << 23, 1 << 40, math.MaxInt, math.MinInt, math.MinInt + 1}
	for n := -40; n <= 40; n++ {
		exponents = append(exponents, n)
	}
	for i, x := range slices.Concat(edges, sample(100)) {
		for j, n := range exponents {
			if x == zero && n < 0 || (i+j)%2 == 0 {
				continue
			}
			if got, want := of(Pow(x, n)), defined(x, big.NewInt(int64(n))); got != want {
				t.Errorf("Pow(%v, %d) = %v, not %v", x, n, got, want)
			}
		}
	}
}

// floor returns what a function returns whose result is the greatest integer that is at most q.
func floor(q *big.Rat) number {
	n := new(big.Int).Div(q.Num(), q.Denom())
	if n.CmpAbs(big.NewInt(api.MaxInt)) > 0 {
		return number{0, api.ErrRange}
	}
	return number{int(n.Int64()), api.OK}
}

func checkIntegers(t *testing.T, x api.Real) {
	t.Helper()
	if got, want := count(Entier(x)), floor(rat(x)); got != want {
		t.Errorf("Entier(%v) = %v, not %v", x, got, want)
	}
	if got, want := count(Round(x)), floor(new(big.Rat).Add(rat(x), big.NewRat(1, 2))); got != want {
		t.Errorf("Round(%v) = %v, not %v", x, got, want)
	}
}

func TestPromise7Integers(t *testing.T) {
	for _, x := range []struct {
		x             api.Real
		entier, round number
	}{
		{api.Real{Man: -3 << 22, Exp: -23}, number{-2, api.OK}, number{-1, api.OK}},
		{api.Real{Man: 5 << 21, Exp: -22}, number{2, api.OK}, number{3, api.OK}},
		{two(-1), number{0, api.OK}, number{1, api.OK}},
		{api.Real{Man: -1 << 23, Exp: -24}, number{-1, api.OK}, number{0, api.OK}},
		{api.Real{Man: 1<<24 - 1, Exp: -25}, number{0, api.OK}, number{0, api.OK}},
		{api.Real{Man: 1<<24 - 1, Exp: -24}, number{0, api.OK}, number{1, api.OK}},
		{api.Real{Man: -1, Exp: -150}, number{-1, api.OK}, number{0, api.OK}},
		{least, number{0, api.OK}, number{0, api.OK}},
		{api.Real{Man: 1<<24 - 1, Exp: 7}, number{2147483520, api.OK}, number{2147483520, api.OK}},
		{two(31), number{0, api.ErrRange}, number{0, api.ErrRange}},
		{api.Real{Man: -1 << 23, Exp: 8}, number{0, api.ErrRange}, number{0, api.ErrRange}},
		{greatest, number{0, api.ErrRange}, number{0, api.ErrRange}},
	} {
		if got := count(Entier(x.x)); got != x.entier {
			t.Errorf("Entier(%v) = %v, not %v", x.x, got, x.entier)
		}
		if got := count(Round(x.x)); got != x.round {
			t.Errorf("Round(%v) = %v, not %v", x.x, got, x.round)
		}
	}
	for _, x := range slices.Concat(edges, sample(3000)) {
		checkIntegers(t, x)
	}
	for exp := api.MinExp; exp <= api.MaxExp; exp++ {
		for _, man := range []int{1 << 23, 1<<23 + 1, 3 << 22, 1<<24 - 1} {
			checkIntegers(t, api.Real{Man: man, Exp: exp})
			checkIntegers(t, api.Real{Man: -man, Exp: exp})
		}
	}
}

// TestErrArg checks that an argument that is no real is the first error, whatever else is wrong.
func TestErrArg(t *testing.T) {
	wrong := result{zero, api.ErrArg}
	for _, bad := range invalid {
		for i, f := range []unary{Next, Neg, Abs, Sqrt} {
			if got := of(f(bad)); got != wrong {
				t.Errorf("function %d of %v = %v", i, bad, got)
			}
		}
		for i, f := range []func(api.Real) (int, api.Errno){Index, Sign, Entier, Round} {
			if got := count(f(bad)); got != (number{0, api.ErrArg}) {
				t.Errorf("integer function %d of %v = %v", i, bad, got)
			}
		}
		if got, e := Print(bad); got != "" || e != api.ErrArg {
			t.Errorf("Print(%v) = %q, %d", bad, got, e)
		}
		for _, n := range []int{math.MinInt, -1, 0, 1, math.MaxInt} {
			if got := of(Pow(bad, n)); got != wrong {
				t.Errorf("Pow(%v, %d) = %v", bad, n, got)
			}
		}
		for _, other := range slices.Concat(edges, invalid) {
			for i, f := range []binary{Add, Sub, Mul, Div} {
				if of(f(bad, other)) != wrong || of(f(other, bad)) != wrong {
					t.Errorf("function %d of %v and %v", i, bad, other)
				}
			}
			if count(Cmp(bad, other)) != (number{0, api.ErrArg}) || count(Cmp(other, bad)) != (number{0, api.ErrArg}) {
				t.Errorf("Cmp of %v and %v", bad, other)
			}
		}
	}
}
