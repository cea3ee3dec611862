package value_test

import (
	"strings"
	"testing"

	"manorboy/api"
	"manorboy/tree"
	"manorboy/value"
)

func isNothing(e api.Exp) bool { return tree.SameExp(e, api.Exp{}) }

func digits(n int) api.Exp { return api.Exp{Kind: api.ExInt, N: n} }

func broke(text string) api.Exp { return api.Exp{Kind: api.ExReal, Real: of(text).R} }

func negative(e api.Exp) api.Exp {
	return api.Exp{Kind: api.ExOne, Op: api.OpNeg, Args: []api.Exp{e}}
}

var yes, no = api.Exp{Kind: api.ExTrue}, api.Exp{Kind: api.ExFalse}

func TestPromise2Literal(t *testing.T) {
	name := api.Exp{Kind: api.ExName, Text: "x"}
	deep := digits(1)
	for range api.MaxNest {
		deep = negative(deep)
	}
	for i, c := range []struct {
		e    api.Exp
		want result
	}{
		{digits(5), right(whole(5))}, {digits(0), right(whole(0))}, {digits(top), right(whole(top))}, {broke("2.5"), right(of("2.5"))}, {broke("0.0"), right(of("0.0"))}, {yes, right(truth(true))}, {no, right(truth(false))},
		{negative(digits(5)), right(whole(-5))}, {negative(digits(0)), right(whole(0))}, {negative(digits(top)), right(whole(-top))}, {negative(broke("2.5")), right(of("-2.5"))}, {negative(broke("0.0")), right(of("0.0"))},
		{negative(negative(digits(5))), wrong(api.ErrKind)}, {negative(yes), wrong(api.ErrKind)}, {negative(name), wrong(api.ErrKind)}, {name, wrong(api.ErrKind)},
		{api.Exp{Kind: api.ExOne, Op: api.OpNot, Args: []api.Exp{yes}}, wrong(api.ErrKind)}, {api.Exp{Kind: api.ExOne, Op: api.OpNot, Args: []api.Exp{digits(1)}}, wrong(api.ErrKind)}, {api.Exp{Kind: api.ExString, Text: "5"}, wrong(api.ErrKind)},
		{api.Exp{Kind: api.ExTwo, Op: api.OpAdd, Args: []api.Exp{digits(1), digits(2)}}, wrong(api.ErrKind)}, {api.Exp{Kind: api.ExIf, Args: []api.Exp{yes, digits(1), digits(2)}}, wrong(api.ErrKind)}, {api.Exp{Kind: api.ExIndex, Text: "a", Args: []api.Exp{digits(1)}}, wrong(api.ErrKind)}, {api.Exp{Kind: api.ExCall, Text: "abs", Args: []api.Exp{digits(1)}}, wrong(api.ErrKind)},
		{api.Exp{}, wrong(api.ErrArg)}, {digits(-1), wrong(api.ErrArg)}, {digits(top + 1), wrong(api.ErrArg)}, {api.Exp{Kind: api.ExReal, Real: of("-2.5").R}, wrong(api.ErrArg)}, {api.Exp{Kind: api.ExReal, Real: api.Real{Man: 1}}, wrong(api.ErrArg)}, {api.Exp{Kind: api.ExTrue, N: 1}, wrong(api.ErrArg)}, {api.Exp{Kind: api.ExInt, N: 1, Text: "x"}, wrong(api.ErrArg)}, {negative(digits(-5)), wrong(api.ErrArg)}, {negative(api.Exp{}), wrong(api.ErrArg)}, {api.Exp{Kind: 12}, wrong(api.ErrArg)},
		{api.Exp{Kind: api.ExOne, Op: api.OpNeg}, wrong(api.ErrArg)}, {api.Exp{Kind: api.ExOne, Op: api.OpNeg, Args: []api.Exp{digits(1), digits(2)}}, wrong(api.ErrArg)}, {api.Exp{Kind: api.ExOne, Op: api.OpAdd, Args: []api.Exp{digits(1)}}, wrong(api.ErrArg)}, {api.Exp{Kind: api.ExInt, N: 1, Args: []api.Exp{digits(1)}}, wrong(api.ErrArg)}, {deep, wrong(api.ErrArg)},
	} {
		if v := got(value.Literal(c.e)); v != c.want {
			t.Errorf("%d: Literal is %v, not %v", i, v, c.want)
		}
	}
}

func TestPromise2Exp(t *testing.T) {
	for _, c := range []struct {
		v string
		e api.Exp
	}{
		{"5", digits(5)}, {"0", digits(0)}, {"2147483647", digits(top)}, {"-5", negative(digits(5))}, {"-2147483647", negative(digits(top))}, {"2.5", broke("2.5")}, {"-2.5", negative(broke("2.5"))}, {"0.0", broke("0.0")}, {"-7.0e-46", negative(broke("7.0e-46"))}, {"true", yes}, {"false", no},
	} {
		if e, err := value.Exp(of(c.v)); err != api.OK || !tree.SameExp(e, c.e) || tree.CheckExp(e) != api.OK {
			t.Errorf("Exp(%s) = %v, %d", c.v, e, err)
		}
	}
}

func TestPromise10Show(t *testing.T) {
	for _, text := range []string{"0", "5", "-5", "2147483647", "-2147483647", "0.0", "2.5", "-2.5", "3.0", "1.0e10", "-1.5e-30", "7.0e-46", "true", "false"} {
		if s, e := value.Show(of(text)); s != text || e != api.OK {
			t.Errorf("Show(%s) = %q, %d", text, s, e)
		}
		if v := got(value.Read(text)); v != right(of(text)) {
			t.Errorf("Read(%q) = %v", text, v)
		}
	}
}

func TestPromise10Read(t *testing.T) {
	for _, text := range []string{
		"", "-0", "+5", "007", "00", "-", "+", " 5", "5 ", "5\n", "- 5", "2147483648", "-2147483648", "5x", "0x5", "1_000",
		"1.50", "1.", ".5", "-0.0", "0.00", "01.5", "+1.5", "1e5", "1.0e5", "1.0E10", "1.0e+10", "10.0e10", "1.0e60", "1.0e-60", "0.00001", "12345678901.0", "0.333333333333", "16777217.0", "1.5e", "- 1.5",
		"True", "TRUE", "true ", " false", "truefalse", "not true", "t", "tru", "1.0true", "\x00", "\xff", strings.Repeat("1", 100), strings.Repeat("0", 100000), "1." + strings.Repeat("0", 70),
	} {
		if v := got(value.Read(text)); v != wrong(api.ErrForm) {
			t.Errorf("Read(%q) = %v", text, v)
		}
	}
}

func TestPromise10Write(t *testing.T) {
	for _, c := range []struct {
		kind int
		v    string
		want string
		e    api.Errno
	}{
		{api.TyInt, "2.5", "3\n", api.OK}, {api.TyInt, "-7", "-7\n", api.OK}, {api.TyReal, "3", "3.0\n", api.OK}, {api.TyReal, "2.5", "2.5\n", api.OK}, {api.TyReal, "16777217", "16777216.0\n", api.OK}, {api.TyBool, "true", "true\n", api.OK}, {api.TyBool, "false", "false\n", api.OK},
		{api.TyInt, "1.0e10", "", api.ErrRange}, {api.TyInt, "true", "", api.ErrType}, {api.TyReal, "false", "", api.ErrType}, {api.TyBool, "1", "", api.ErrType}, {api.TyBool, "1.0e10", "", api.ErrType},
	} {
		if s, e := value.Write(c.kind, of(c.v)); s != c.want || e != c.e {
			t.Errorf("Write(%d, %s) = %q, %d", c.kind, c.v, s, e)
		}
	}
}
