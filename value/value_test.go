package value_test

import (
	"math"
	"testing"

	"manorboy/api"
	"manorboy/value"
)

func TestPromise1Valid(t *testing.T) {
	for _, v := range values {
		if !value.Valid(v) {
			t.Errorf("%v is not valid", v)
		}
	}
	for _, v := range invalid {
		if value.Valid(v) {
			t.Errorf("%v is valid", v)
		}
	}
}

func TestPromise1Zero(t *testing.T) {
	for kind, want := range []result{wrong(api.ErrArg), right(whole(0)), right(of("0.0")), right(truth(false)), wrong(api.ErrArg)} {
		if v := got(value.Zero(kind)); v != want {
			t.Errorf("Zero(%d) = %v", kind, v)
		}
	}
	for _, kind := range []int{-1, math.MinInt, math.MaxInt, 1<<32 + 1} {
		if v := got(value.Zero(kind)); v != wrong(api.ErrArg) {
			t.Errorf("Zero(%d) = %v", kind, v)
		}
	}
}

func TestPromise3Convert(t *testing.T) {
	for _, c := range []struct {
		kind    int
		v, want string
	}{
		{api.TyInt, "2.5", "3"}, {api.TyInt, "-2.5", "-2"}, {api.TyInt, "2.4", "2"}, {api.TyInt, "-2.6", "-3"}, {api.TyInt, "0.49999997", "0"}, {api.TyInt, "-0.5", "0"}, {api.TyInt, "0.5", "1"},
		{api.TyInt, "2147483520.0", "2147483520"}, {api.TyInt, "-2147483520.0", "-2147483520"}, {api.TyInt, "2147483648.0", "ErrRange"}, {api.TyInt, "-2147483648.0", "ErrRange"}, {api.TyInt, "1.0e50", "ErrRange"},
		{api.TyInt, "-7", "-7"}, {api.TyInt, "2147483647", "2147483647"}, {api.TyInt, "true", "ErrType"}, {api.TyInt, "false", "ErrType"},
		{api.TyReal, "3", "3.0"}, {api.TyReal, "-3", "-3.0"}, {api.TyReal, "0", "0.0"}, {api.TyReal, "16777217", "16777216.0"}, {api.TyReal, "16777219", "16777220.0"}, {api.TyReal, "2147483647", "2147483648.0"},
		{api.TyReal, "2.5", "2.5"}, {api.TyReal, "1.0e50", "1.0e50"}, {api.TyReal, "true", "ErrType"},
		{api.TyBool, "1", "ErrType"}, {api.TyBool, "0", "ErrType"}, {api.TyBool, "0.0", "ErrType"}, {api.TyBool, "1.0e50", "ErrType"}, {api.TyBool, "true", "true"}, {api.TyBool, "false", "false"},
	} {
		if v := convert(c.kind, of(c.v)); v != wanted(c.want) {
			t.Errorf("Convert(%d, %s) = %v, not %s", c.kind, c.v, v, c.want)
		}
	}
}

func TestPromise4Subscript(t *testing.T) {
	for _, c := range []struct {
		v string
		n int
		e api.Errno
	}{
		{"7", 7, api.OK}, {"-7", -7, api.OK}, {"0", 0, api.OK}, {"2.5", 3, api.OK}, {"-2.5", -2, api.OK}, {"1.0e10", 0, api.ErrRange}, {"true", 0, api.ErrType}, {"false", 0, api.ErrType},
	} {
		if n, e := value.Subscript(of(c.v)); n != c.n || e != c.e {
			t.Errorf("Subscript(%s) = %d, %d", c.v, n, e)
		}
	}
}

func TestPromise4Truth(t *testing.T) {
	for _, v := range values {
		want, e := v.B, api.OK
		if v.Kind != api.TyBool {
			e = api.ErrType
		}
		if b, f := value.Truth(v); b != want || f != e {
			t.Errorf("Truth(%v) = %t, %d", v, b, f)
		}
	}
}

func TestPromise5One(t *testing.T) {
	for _, c := range []struct {
		op      int
		v, want string
	}{
		{api.OpNeg, "5", "-5"}, {api.OpNeg, "-5", "5"}, {api.OpNeg, "0", "0"}, {api.OpNeg, "2147483647", "-2147483647"}, {api.OpNeg, "-2147483647", "2147483647"},
		{api.OpNeg, "2.5", "-2.5"}, {api.OpNeg, "-2.5", "2.5"}, {api.OpNeg, "0.0", "0.0"}, {api.OpNeg, "7.0e-46", "-7.0e-46"}, {api.OpNeg, "true", "ErrType"}, {api.OpNeg, "false", "ErrType"},
		{api.OpNot, "true", "false"}, {api.OpNot, "false", "true"}, {api.OpNot, "0", "ErrType"}, {api.OpNot, "1", "ErrType"}, {api.OpNot, "0.0", "ErrType"}, {api.OpNot, "2.5", "ErrType"},
	} {
		if v := one(c.op, of(c.v)); v != wanted(c.want) {
			t.Errorf("One(%d, %s) = %v, not %s", c.op, c.v, v, c.want)
		}
	}
}

func TestPromise6Numbers(t *testing.T) {
	for _, c := range []struct {
		op         int
		a, b, want string
	}{
		{api.OpAdd, "2147483647", "1", "ErrRange"}, {api.OpAdd, "2147483647", "1.0", "2147483648.0"}, {api.OpAdd, "1.5", "2", "3.5"}, {api.OpAdd, "2", "3", "5"}, {api.OpAdd, "-2147483647", "-1", "ErrRange"}, {api.OpAdd, "2.3e52", "2.3e52", "ErrRange"},
		{api.OpSub, "2", "3", "-1"}, {api.OpSub, "2", "0.5", "1.5"}, {api.OpSub, "0.5", "2", "-1.5"}, {api.OpSub, "-2147483647", "1", "ErrRange"}, {api.OpSub, "16777217", "1.0", "16777215.0"}, {api.OpSub, "2.3e52", "-2.3e52", "ErrRange"},
		{api.OpMul, "46340", "-46340", "-2147395600"}, {api.OpMul, "46341", "46341", "ErrRange"}, {api.OpMul, "2", "1.5", "3.0"}, {api.OpMul, "1.5", "2", "3.0"}, {api.OpMul, "0", "1.5", "0.0"}, {api.OpMul, "0", "-3", "0"}, {api.OpMul, "1.0e30", "1.0e30", "ErrRange"}, {api.OpMul, "1.0e-30", "1.0e-30", "0.0"},
		{api.OpDiv, "7", "2", "3.5"}, {api.OpDiv, "8", "2", "4.0"}, {api.OpDiv, "7.0", "2", "3.5"}, {api.OpDiv, "1", "3.0", "0.33333334"}, {api.OpDiv, "7", "0", "ErrNone"}, {api.OpDiv, "0", "0", "ErrNone"}, {api.OpDiv, "7", "0.0", "ErrNone"}, {api.OpDiv, "0.0", "5", "0.0"}, {api.OpDiv, "1.0e30", "1.0e-30", "ErrRange"}, {api.OpDiv, "16777217", "1", "16777216.0"},
		{api.OpQuo, "-7", "2", "-3"}, {api.OpQuo, "7", "-2", "-3"}, {api.OpQuo, "7", "2", "3"}, {api.OpQuo, "-7", "-2", "3"}, {api.OpQuo, "7", "0", "ErrNone"}, {api.OpQuo, "0", "0", "ErrNone"}, {api.OpQuo, "7.0", "2", "ErrType"}, {api.OpQuo, "7", "2.0", "ErrType"}, {api.OpQuo, "7.0", "0", "ErrType"}, {api.OpQuo, "true", "0", "ErrType"}, {api.OpQuo, "7", "0.0", "ErrType"},
	} {
		if v := two(c.op, of(c.a), of(c.b)); v != wanted(c.want) {
			t.Errorf("Two(%d, %s, %s) = %v, not %s", c.op, c.a, c.b, v, c.want)
		}
	}
}

func TestPromise6Powers(t *testing.T) {
	for _, c := range []struct{ a, b, want string }{
		{"2", "10", "1024"}, {"2", "-1", "0.5"}, {"-2", "3", "-8"}, {"-2", "-3", "-0.125"}, {"5", "0", "1"}, {"5", "1", "5"}, {"-1", "2147483647", "-1"}, {"1", "-2147483647", "1.0"}, {"-1", "-1", "-1.0"}, {"2", "31", "ErrRange"}, {"2", "30", "1073741824"}, {"0", "5", "0"},
		{"0", "0", "ErrNone"}, {"0", "-1", "ErrNone"}, {"0.0", "0", "ErrNone"}, {"0.0", "-1", "ErrNone"}, {"0.0", "-2147483647", "ErrNone"}, {"0.0", "1", "0.0"}, {"0", "1", "0"},
		{"2.0", "10", "1024.0"}, {"1.5", "2", "2.25"}, {"1.5", "0", "1.0"}, {"1.5", "1", "1.5"}, {"-1.5", "3", "-3.375"}, {"2.0", "-1", "0.5"}, {"2.0", "31", "2147483648.0"}, {"2.0", "-2147483647", "ErrRange"}, {"0.5", "2147483647", "0.0"}, {"0.5", "-2147483647", "ErrRange"}, {"2", "-174", "ErrRange"}, {"10", "-40", "1.0e-40"}, {"1.0e30", "2", "ErrRange"},
		{"2", "0.5", "ErrType"}, {"2", "2.0", "ErrType"}, {"2.0", "2.0", "ErrType"}, {"0", "0.0", "ErrType"}, {"true", "2", "ErrType"}, {"2", "true", "ErrType"}, {"true", "true", "ErrType"},
	} {
		if v := two(api.OpPow, of(c.a), of(c.b)); v != wanted(c.want) {
			t.Errorf("%s ^ %s = %v, not %s", c.a, c.b, v, c.want)
		}
	}
}

func TestPromise6Relations(t *testing.T) {
	for _, c := range []struct {
		a, b  string
		order int
	}{
		{"1", "2", -1}, {"2", "2", 0}, {"3", "2", 1}, {"-3", "2", -1}, {"1.5", "1.5", 0}, {"1.5", "1.6", -1}, {"1", "1.0", 0}, {"1.0", "1", 0}, {"1.5", "1", 1}, {"1", "1.5", -1},
		{"16777217", "16777216.0", 0}, {"16777216.0", "16777217", 0}, {"16777217", "16777216", 1}, {"2147483647", "2147483648.0", 0}, {"0", "0.0", 0}, {"0", "7.0e-46", -1}, {"-7.0e-46", "0", -1},
	} {
		want := map[int]bool{api.OpLt: c.order < 0, api.OpLe: c.order <= 0, api.OpEq: c.order == 0, api.OpNe: c.order != 0, api.OpGe: c.order >= 0, api.OpGt: c.order > 0}
		for op, b := range want {
			if v := two(op, of(c.a), of(c.b)); v != right(truth(b)) {
				t.Errorf("Two(%d, %s, %s) = %v, not %t", op, c.a, c.b, v, b)
			}
		}
	}
}

func TestPromise6Logic(t *testing.T) {
	for op, want := range map[int][4]bool{
		api.OpAnd: {false, false, false, true},
		api.OpOr:  {false, true, true, true},
		api.OpImp: {true, true, false, true},
		api.OpEqv: {true, false, false, true},
	} {
		for i, b := range want {
			if v := two(op, truths[i/2], truths[i%2]); v != right(truth(b)) {
				t.Errorf("Two(%d, %v, %v) = %v, not %t", op, truths[i/2], truths[i%2], v, b)
			}
		}
	}
	if v := two(api.OpAnd, truth(true), whole(1)); v != wrong(api.ErrType) {
		t.Errorf("true and 1 is %v", v)
	}
}

func TestPromise7Compare(t *testing.T) {
	for _, c := range []struct {
		a, b string
		n    int
		e    api.Errno
	}{
		{"1", "2", -1, api.OK}, {"2", "1", 1, api.OK}, {"2", "2", 0, api.OK}, {"2.5", "2", 1, api.OK}, {"2", "2.5", -1, api.OK}, {"2", "2.0", 0, api.OK}, {"-1.0e50", "1.0e50", -1, api.OK}, {"16777217", "16777216.0", 0, api.OK}, {"16777217", "16777216", 1, api.OK}, {"2147483647", "-2147483647", 1, api.OK},
		{"true", "true", 0, api.ErrType}, {"1", "true", 0, api.ErrType}, {"true", "1", 0, api.ErrType}, {"false", "0.0", 0, api.ErrType}, {"0.0", "false", 0, api.ErrType},
	} {
		if v := compare(of(c.a), of(c.b)); v != (order{c.n, c.e}) {
			t.Errorf("Compare(%s, %s) = %v", c.a, c.b, v)
		}
	}
}

func TestPromise8Within(t *testing.T) {
	for _, c := range []struct {
		v, step, last string
		want          bool
		e             api.Errno
	}{
		{"11", "1", "10", false, api.OK}, {"10", "1", "10", true, api.OK}, {"9", "1", "10", true, api.OK}, {"5", "0", "1", true, api.OK}, {"5", "0", "9", true, api.OK}, {"5", "0.0", "1", true, api.OK}, {"1", "-2", "0", true, api.OK}, {"0", "-2", "0", true, api.OK}, {"-1", "-2", "0", false, api.OK},
		{"1.5", "0.5", "1", false, api.OK}, {"1", "0.5", "1.5", true, api.OK}, {"1.0", "-7.0e-46", "1", true, api.OK}, {"0.9", "-0.5", "1", false, api.OK}, {"1.1", "7.0e-46", "1", false, api.OK}, {"16777217", "1", "16777216.0", true, api.OK}, {"16777217", "1", "16777216", false, api.OK},
		{"true", "1", "1", false, api.ErrType}, {"1", "true", "1", false, api.ErrType}, {"1", "1", "true", false, api.ErrType}, {"1", "0", "true", false, api.ErrType}, {"false", "0", "1", false, api.ErrType}, {"false", "false", "false", false, api.ErrType},
	} {
		if b, e := value.Within(of(c.v), of(c.step), of(c.last)); b != c.want || e != c.e {
			t.Errorf("Within(%s, %s, %s) = %t, %d", c.v, c.step, c.last, b, e)
		}
	}
}

func TestPromise9Call(t *testing.T) {
	for _, c := range []struct {
		fn      int
		v, want string
	}{
		{api.FnAbs, "-3", "3"}, {api.FnAbs, "3", "3"}, {api.FnAbs, "0", "0"}, {api.FnAbs, "-2147483647", "2147483647"}, {api.FnAbs, "-2.5", "2.5"}, {api.FnAbs, "2.5", "2.5"}, {api.FnAbs, "0.0", "0.0"}, {api.FnAbs, "true", "ErrType"},
		{api.FnSign, "-3", "-1"}, {api.FnSign, "3", "1"}, {api.FnSign, "0", "0"}, {api.FnSign, "-0.5", "-1"}, {api.FnSign, "7.0e-46", "1"}, {api.FnSign, "0.0", "0"}, {api.FnSign, "1.0e50", "1"}, {api.FnSign, "false", "ErrType"},
		{api.FnEntier, "-0.5", "-1"}, {api.FnEntier, "0.5", "0"}, {api.FnEntier, "2.9", "2"}, {api.FnEntier, "-2.0", "-2"}, {api.FnEntier, "7", "7"}, {api.FnEntier, "-2147483647", "-2147483647"}, {api.FnEntier, "2147483520.0", "2147483520"}, {api.FnEntier, "2147483648.0", "ErrRange"}, {api.FnEntier, "-2147483648.0", "ErrRange"}, {api.FnEntier, "1.0e50", "ErrRange"}, {api.FnEntier, "true", "ErrType"},
	} {
		if v := call(c.fn, of(c.v)); v != wanted(c.want) {
			t.Errorf("Call(%d, %s) = %v, not %s", c.fn, c.v, v, c.want)
		}
	}
}

func TestPromise11Result(t *testing.T) {
	for _, c := range []struct{ op, a, b, want int }{
		{api.OpPow, api.TyInt, api.TyInt, api.TyNone}, {api.OpPow, api.TyReal, api.TyInt, api.TyReal},
		{api.OpLt, api.TyInt, api.TyReal, api.TyBool}, {api.OpNe, api.TyInt, api.TyInt, api.TyBool},
		{api.OpAdd, api.TyInt, api.TyInt, api.TyInt}, {api.OpAdd, api.TyInt, api.TyReal, api.TyReal}, {api.OpMul, api.TyReal, api.TyInt, api.TyReal}, {api.OpSub, api.TyReal, api.TyReal, api.TyReal},
		{api.OpDiv, api.TyInt, api.TyInt, api.TyReal}, {api.OpDiv, api.TyReal, api.TyInt, api.TyReal}, {api.OpQuo, api.TyInt, api.TyInt, api.TyInt},
		{api.OpNeg, api.TyInt, api.TyNone, api.TyInt}, {api.OpNeg, api.TyReal, api.TyNone, api.TyReal}, {api.OpNot, api.TyBool, api.TyNone, api.TyBool}, {api.OpImp, api.TyBool, api.TyBool, api.TyBool},
	} {
		if kind, e := value.Result(c.op, c.a, c.b); kind != c.want || e != api.OK {
			t.Errorf("Result(%d, %d, %d) = %d, %d", c.op, c.a, c.b, kind, e)
		}
	}
	for _, c := range []struct {
		op, a, b int
		e        api.Errno
	}{
		{api.OpNot, api.TyInt, api.TyNone, api.ErrType}, {api.OpNot, api.TyReal, api.TyNone, api.ErrType}, {api.OpNeg, api.TyBool, api.TyNone, api.ErrType},
		{api.OpPow, api.TyInt, api.TyReal, api.ErrType}, {api.OpPow, api.TyReal, api.TyReal, api.ErrType}, {api.OpQuo, api.TyInt, api.TyReal, api.ErrType}, {api.OpQuo, api.TyReal, api.TyInt, api.ErrType}, {api.OpEq, api.TyBool, api.TyBool, api.ErrType}, {api.OpAdd, api.TyBool, api.TyInt, api.ErrType}, {api.OpAnd, api.TyInt, api.TyBool, api.ErrType},
		{0, api.TyInt, api.TyInt, api.ErrArg}, {0, api.TyInt, api.TyNone, api.ErrArg}, {19, api.TyBool, api.TyBool, api.ErrArg}, {-1, api.TyInt, api.TyInt, api.ErrArg}, {math.MinInt, api.TyInt, api.TyInt, api.ErrArg}, {math.MaxInt, api.TyBool, api.TyBool, api.ErrArg},
		{api.OpNeg, api.TyInt, api.TyInt, api.ErrArg}, {api.OpNot, api.TyBool, api.TyBool, api.ErrArg}, {api.OpNeg, api.TyBool, api.TyInt, api.ErrArg}, {api.OpNeg, api.TyNone, api.TyNone, api.ErrArg}, {api.OpNot, 4, api.TyNone, api.ErrArg}, {api.OpNot, api.TyBool, -1, api.ErrArg}, {api.OpNot, api.TyBool, 4, api.ErrArg},
		{api.OpAdd, api.TyInt, api.TyNone, api.ErrArg}, {api.OpAdd, api.TyNone, api.TyInt, api.ErrArg}, {api.OpAdd, api.TyBool, 4, api.ErrArg}, {api.OpAnd, 4, api.TyBool, api.ErrArg}, {api.OpAnd, api.TyBool, -1, api.ErrArg}, {api.OpQuo, -1, api.TyReal, api.ErrArg}, {api.OpPow, api.TyBool, api.TyNone, api.ErrArg},
	} {
		if kind, e := value.Result(c.op, c.a, c.b); kind != 0 || e != c.e {
			t.Errorf("Result(%d, %d, %d) = %d, %d", c.op, c.a, c.b, kind, e)
		}
	}
}

func TestPromise12Trap(t *testing.T) {
	want := map[api.Errno]int{api.OK: api.StGoing, api.ErrRange: api.TrRange, api.ErrNone: api.TrDiv, api.ErrKind: api.TrKind, api.ErrType: api.TrType}
	for e := api.Errno(-3); e < 20; e++ {
		status, ok := want[e]
		if !ok {
			status = api.TrCode
		}
		if n := value.Trap(e); n != status {
			t.Errorf("Trap(%d) = %d", e, n)
		}
	}
	for _, e := range []api.Errno{math.MinInt, math.MaxInt, 1 << 32} {
		if n := value.Trap(e); n != api.TrCode {
			t.Errorf("Trap(%d) = %d", e, n)
		}
	}
}
