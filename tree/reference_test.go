package tree_test

import (
	"fmt"
	"reflect"
	"slices"
	"strings"

	"manorboy/api"
	"manorboy/integer"
	"manorboy/lex"
	"manorboy/real"
)

// This file reads the chapter's rules a second time, in other forms than the package does.

// spot is a part of a tree: its path, and a pointer to it.
type spot struct {
	path []int
	at   any
}

// spots returns the parts that begin with one, in the order of their numbers.
func spots(at any, path ...int) []spot {
	l := []spot{{path, at}}
	var children []any
	for _, field := range []string{"Targets", "Exps", "For", "Decls", "Body", "Args"} {
		if elements := reflect.ValueOf(at).Elem().FieldByName(field); elements.IsValid() {
			for i := range elements.Len() {
				children = append(children, elements.Index(i).Addr().Interface())
			}
		}
	}
	for i, child := range children {
		l = append(l, spots(child, append(slices.Clone(path), i)...)...)
	}
	return l
}

// part returns what is at a spot.
func (s spot) part() api.Part {
	switch x := s.at.(type) {
	case *api.Stmt:
		return api.Part{Kind: api.PaStmt, Stmt: *x}
	case *api.Decl:
		return api.Part{Kind: api.PaDecl, Decl: *x}
	case *api.Elem:
		return api.Part{Kind: api.PaElem, Elem: *x}
	case *api.Exp:
		return api.Part{Kind: api.PaExp, Exp: *x}
	}
	panic(s)
}

// extra returns how many labels, names and formal parameters a part has.
func (s spot) extra() int {
	count := 0
	for _, field := range []string{"Labels", "Names", "Formals"} {
		if elements := reflect.ValueOf(s.at).Elem().FieldByName(field); elements.IsValid() {
			count += elements.Len()
		}
	}
	return count
}

// measured returns the size and the depth of a part, without limits.
func measured(at any) (size, depth int) {
	for _, s := range spots(at) {
		size += 1 + s.extra()
		depth = max(depth, len(s.path)+1)
	}
	return size, depth
}

// lengths are the fields of a kind, with the least and the greatest lengths of the lists among them.
type lengths map[string][2]int

const many = 1 << 30

var expLengths = map[int]lengths{
	api.ExInt: {"N": {}}, api.ExReal: {"Real": {}}, api.ExTrue: {}, api.ExFalse: {}, api.ExString: {"Text": {}}, api.ExName: {"Text": {}},
	api.ExIndex: {"Text": {}, "Args": {1, 4}}, api.ExCall: {"Text": {}, "Args": {1, 8}},
	api.ExOne: {"Op": {}, "Args": {1, 1}}, api.ExTwo: {"Op": {}, "Args": {2, 2}}, api.ExIf: {"Args": {3, 3}},
}

var elemLengths = map[int]lengths{api.FeOnce: {"Exps": {1, 1}}, api.FeStep: {"Exps": {3, 3}}, api.FeWhile: {"Exps": {2, 2}}}

var stmtLengths = map[int]lengths{
	api.StEmpty: {}, api.StAssign: {"Targets": {1, many}, "Exps": {1, 1}}, api.StGoto: {"Exps": {1, 1}}, api.StIf: {"Exps": {1, 1}, "Body": {1, 2}},
	api.StFor: {"Targets": {1, 1}, "For": {1, many}, "Body": {1, 1}}, api.StCall: {"Text": {}, "Exps": {0, 8}},
	api.StBlock: {"Decls": {1, many}, "Body": {1, many}}, api.StList: {"Body": {1, many}},
}

var declLengths = map[int]lengths{
	api.DeVar: {"Own": {}, "Type": {}, "Names": {1, many}}, api.DeArray: {"Own": {}, "Type": {}, "Names": {1, many}, "Exps": {2, 8}},
	api.DeSwitch: {"Names": {1, 1}, "Exps": {1, many}}, api.DeProc: {"Type": {}, "Names": {1, 1}, "Formals": {0, 8}, "Body": {1, 1}},
}

// has reports whether a part has the fields of its kind, and no others.
func has(part any, kinds map[int]lengths) bool {
	value := reflect.ValueOf(part)
	fields, known := kinds[int(value.FieldByName("Kind").Int())]
	for i := range value.NumField() {
		name, field := value.Type().Field(i).Name, value.Field(i)
		if name == "Kind" || name == "Labels" {
			continue
		}
		bounds, named := fields[name]
		isList := field.Kind() == reflect.Slice
		switch {
		case isList && (field.Len() < bounds[0] || field.Len() > bounds[1]):
			known = false
		case !isList && !named && !field.IsZero():
			known = false
		}
	}
	return known
}

// fits reports whether a part is valid if its children are.
func fits(at any) bool {
	names := func(l ...string) bool {
		return !slices.ContainsFunc(l, func(s string) bool { return !lex.IsName(s) })
	}
	switch x := at.(type) {
	case *api.Exp:
		ok := has(*x, expLengths)
		switch x.Kind {
		case api.ExInt:
			return ok && 0 <= x.N && x.N <= 2147483647
		case api.ExReal:
			return ok && real.Valid(x.Real) && x.Real.Man >= 0
		case api.ExString:
			tokens, e, _ := lex.Lex(`"` + x.Text + `"`)
			return ok && e == api.OK && len(tokens) == 1 && tokens[0].Text == x.Text
		case api.ExName, api.ExIndex, api.ExCall:
			return ok && names(x.Text)
		case api.ExOne:
			return ok && (x.Op == 1 || x.Op == 2)
		case api.ExTwo:
			return ok && 3 <= x.Op && x.Op <= 18
		}
		return ok
	case *api.Elem:
		return has(*x, elemLengths)
	case *api.Stmt:
		ok := has(*x, stmtLengths) && names(x.Labels...)
		switch x.Kind {
		case api.StAssign, api.StFor:
			return ok && !slices.ContainsFunc(x.Targets, func(e api.Exp) bool { return !isTarget(e) })
		case api.StIf:
			return ok && x.Body[0].Kind != api.StIf && x.Body[0].Kind != api.StFor
		case api.StCall:
			return ok && names(x.Text)
		}
		return ok
	case *api.Decl:
		ok := has(*x, declLengths) && names(x.Names...)
		switch x.Kind {
		case api.DeVar, api.DeArray:
			return ok && 1 <= x.Type && x.Type <= 3 && len(x.Exps)%2 == 0
		case api.DeProc:
			seen := map[string]bool{}
			for _, f := range x.Formals {
				ok = ok && !seen[f.Name] && slices.Contains(validFormals(f.Name), f) && names(f.Name)
				seen[f.Name] = true
			}
			return ok && 0 <= x.Type && x.Type <= 3
		}
		return ok
	}
	panic(at)
}

// checked returns the error of a part.
func checked(at any) api.Errno {
	if size, depth := measured(at); size > api.MaxNodes || depth > api.MaxNest {
		return api.ErrLimit
	}
	for _, s := range spots(at) {
		if !fits(s.at) {
			return api.ErrArg
		}
	}
	return api.OK
}

// templates say how an expression is written, by its kind and operator: its level, and then its tokens, a number being the next operand, at a place that asks for this level.
var templates = map[[2]int]string{
	{api.ExTwo, api.OpPow}: "9 9 ^ 10",
	{api.ExTwo, api.OpMul}: "8 8 * 9", {api.ExTwo, api.OpDiv}: "8 8 / 9", {api.ExTwo, api.OpQuo}: "8 8 // 9",
	{api.ExTwo, api.OpAdd}: "7 7 + 8", {api.ExTwo, api.OpSub}: "7 7 - 8",
	{api.ExOne, api.OpNeg}: "7 - 8",
	{api.ExTwo, api.OpLt}:  "6 7 < 7", {api.ExTwo, api.OpLe}: "6 7 <= 7", {api.ExTwo, api.OpEq}: "6 7 = 7",
	{api.ExTwo, api.OpNe}: "6 7 /= 7", {api.ExTwo, api.OpGe}: "6 7 >= 7", {api.ExTwo, api.OpGt}: "6 7 > 7",
	{api.ExOne, api.OpNot}: "5 not 6",
	{api.ExTwo, api.OpAnd}: "4 4 and 5",
	{api.ExTwo, api.OpOr}:  "3 3 or 4",
	{api.ExTwo, api.OpImp}: "2 2 imp 3",
	{api.ExTwo, api.OpEqv}: "1 1 eqv 2",
	{api.ExIf, 0}:          "0 if 1 then 1 else 0",
}

// level returns the level of an expression.
func level(e api.Exp) int {
	level := 10
	if template := templates[[2]int{e.Kind, e.Op}]; template != "" {
		fmt.Sscan(template, &level)
	}
	return level
}

// expTokens returns the tokens of an expression, at a place that asks for a level.
func expTokens(e api.Exp, asked int) []string {
	if level(e) < asked {
		return slices.Concat([]string{"("}, expTokens(e, 0), []string{")"})
	}
	text := map[int]string{api.ExTrue: "true", api.ExFalse: "false", api.ExString: `"` + e.Text + `"`}[e.Kind]
	switch e.Kind {
	case api.ExInt:
		text, _ = integer.Print(e.N)
	case api.ExReal:
		text, _ = real.Print(e.Real)
	case api.ExName:
		text = e.Text
	case api.ExIndex:
		return slices.Concat([]string{e.Text, "["}, separated(",", expsTokens(e.Args)), []string{"]"})
	case api.ExCall:
		return slices.Concat([]string{e.Text, "("}, separated(",", expsTokens(e.Args)), []string{")"})
	case api.ExOne, api.ExTwo, api.ExIf:
		var tokens []string
		operands := e.Args
		for _, item := range strings.Fields(templates[[2]int{e.Kind, e.Op}])[1:] {
			if item[0] < '0' || item[0] > '9' {
				tokens = append(tokens, item)
				continue
			}
			var asked int
			fmt.Sscan(item, &asked)
			tokens = append(tokens, expTokens(operands[0], asked)...)
			operands = operands[1:]
		}
		return tokens
	}
	return []string{text}
}

func expsTokens(l []api.Exp) [][]string {
	var tokens [][]string
	for _, e := range l {
		tokens = append(tokens, expTokens(e, 0))
	}
	return tokens
}

// separated puts a sign between lists of tokens.
func separated(sign string, lists [][]string) []string {
	var tokens []string
	for i, l := range lists {
		if i > 0 {
			tokens = append(tokens, sign)
		}
		tokens = append(tokens, l...)
	}
	return tokens
}

func namesTokens(names []string) []string { return strings.Fields(strings.Join(names, " , ")) }

func stmtTokens(s api.Stmt) []string {
	var tokens []string
	for _, label := range s.Labels {
		tokens = append(tokens, label, ":")
	}
	exps := expsTokens(s.Exps)
	var targets, bodies [][]string
	for _, e := range s.Targets {
		targets = append(targets, append(expTokens(e, 0), ":="))
	}
	for _, body := range s.Body {
		bodies = append(bodies, stmtTokens(body))
	}
	word := func(words ...string) { tokens = append(tokens, words...) }
	switch s.Kind {
	case api.StAssign:
		word(slices.Concat(slices.Concat(targets...), exps[0])...)
	case api.StGoto:
		word(append([]string{"goto"}, exps[0]...)...)
	case api.StIf:
		word(slices.Concat([]string{"if"}, exps[0], []string{"then"}, separated("else", bodies))...)
	case api.StFor:
		var elems [][]string
		for _, f := range s.For {
			words := [][]string{nil, {""}, {"", "step", "until"}, {"", "while"}}[f.Kind]
			var l []string
			for i, e := range expsTokens(f.Exps) {
				l = append(append(l, strings.Fields(words[i])...), e...)
			}
			elems = append(elems, l)
		}
		word(slices.Concat([]string{"for"}, targets[0], separated(",", elems), []string{"do"}, bodies[0])...)
	case api.StCall:
		word(s.Text)
		if len(exps) > 0 {
			word(slices.Concat([]string{"("}, separated(",", exps), []string{")"})...)
		}
	case api.StBlock, api.StList:
		word("begin")
		for _, d := range s.Decls {
			word(append(declTokens(d), ";")...)
		}
		word(append(separated(";", bodies), "end")...)
	}
	return tokens
}

var typeWords = []string{"", "integer ", "real ", "boolean "}

func declTokens(d api.Decl) []string {
	var begin string
	if d.Own {
		begin = "own "
	}
	begin += typeWords[d.Type]
	switch exps := expsTokens(d.Exps); d.Kind {
	case api.DeVar:
		return append(strings.Fields(begin), namesTokens(d.Names)...)
	case api.DeArray:
		var dims [][]string
		for i := 0; i < len(exps); i += 2 {
			dims = append(dims, slices.Concat(exps[i], []string{":"}, exps[i+1]))
		}
		return slices.Concat(strings.Fields(begin+"array"), namesTokens(d.Names), []string{"["}, separated(",", dims), []string{"]"})
	case api.DeSwitch:
		return append([]string{"switch", d.Names[0], ":="}, separated(",", exps)...)
	}
	var formals, values []string
	specifications := ""
	for _, f := range d.Formals {
		formals = append(formals, f.Name)
		if f.Value {
			values = append(values, f.Name)
		}
		if f.Spec != api.SpNone {
			word := []string{"", "", "array ", "label ", "switch ", "string ", "procedure "}[f.Spec]
			specifications += typeWords[f.Type] + word + f.Name + " ; "
		}
	}
	begin += "procedure " + d.Names[0]
	if len(formals) > 0 {
		begin += " ( " + strings.Join(formals, " , ") + " )"
	}
	begin += " ; "
	if len(values) > 0 {
		begin += "value " + strings.Join(values, " , ") + " ; "
	}
	return append(strings.Fields(begin+specifications), stmtTokens(d.Body[0])...)
}

// joined writes tokens with the blanks that belong between them.
func joined(tokens []string) string {
	var text strings.Builder
	for i, token := range tokens {
		if i > 0 && !strings.Contains(" , ; : ) ] ", " "+token+" ") && !strings.Contains(" ( [ ", " "+tokens[i-1]+" ") {
			if !(token == "(" || token == "[") || !lex.IsName(tokens[i-1]) {
				text.WriteByte(' ')
			}
		}
		text.WriteString(token)
	}
	return text.String()
}

// clone returns a copy in new memory, with zero elements behind the end of each list that is not nil.
func clone[T any](x T) T { return cloned(reflect.ValueOf(x)).Interface().(T) }

const behind = 2

func cloned(x reflect.Value) reflect.Value {
	result := reflect.New(x.Type()).Elem()
	switch x.Kind() {
	case reflect.Struct:
		for i := range x.NumField() {
			result.Field(i).Set(cloned(x.Field(i)))
		}
	case reflect.Slice:
		if x.IsNil() {
			break
		}
		result.Set(reflect.MakeSlice(x.Type(), x.Len(), x.Len()+behind))
		for i := range x.Len() {
			result.Index(i).Set(cloned(x.Index(i)))
		}
	default:
		result.Set(x)
	}
	return result
}

// slicesIn visits all lists in a value.
func slicesIn(x reflect.Value, visit func(reflect.Value)) {
	switch x.Kind() {
	case reflect.Pointer:
		slicesIn(x.Elem(), visit)
	case reflect.Struct:
		for i := range x.NumField() {
			slicesIn(x.Field(i), visit)
		}
	case reflect.Slice:
		visit(x)
		for i := range x.Len() {
			slicesIn(x.Index(i), visit)
		}
	}
}

// isUntouched reports whether the lists of what clone returned have zeros behind their ends.
func isUntouched(x any) bool {
	ok := true
	slicesIn(reflect.ValueOf(x), func(l reflect.Value) {
		if l.IsNil() {
			return
		}
		whole := l.Slice(0, l.Cap())
		for i := l.Len(); i < whole.Len(); i++ {
			ok = ok && whole.Index(i).IsZero()
		}
	})
	return ok
}

// isNew reports whether no two lists in a value share memory.
func isNew(x any) bool {
	seen, ok := map[uintptr]bool{}, true
	slicesIn(reflect.ValueOf(x), func(l reflect.Value) {
		if l.Len() > 0 {
			ok = ok && !seen[l.Pointer()]
			seen[l.Pointer()] = true
		}
	})
	return ok
}

// scribble changes all that a result can reach in its lists.
func scribble(x any) {
	slicesIn(reflect.ValueOf(x), func(l reflect.Value) {
		whole := l.Slice(0, l.Cap())
		for i := range whole.Len() {
			element := whole.Index(i)
			switch element.Kind() {
			case reflect.String:
				element.SetString("scribble")
			case reflect.Int:
				element.SetInt(-77)
			case reflect.Struct:
				for j := range element.NumField() {
					if field := element.Field(j); field.Kind() == reflect.Int {
						field.SetInt(-77)
					} else if field.Kind() == reflect.String {
						field.SetString("scribble")
					}
				}
			}
		}
	})
}

// emptied returns a copy that has empty lists for nil ones.
func emptied[T any](x T) T {
	result := reflect.New(reflect.TypeOf(x))
	result.Elem().Set(cloned(reflect.ValueOf(x)))
	fillEmpty(result.Elem())
	return result.Elem().Interface().(T)
}

func fillEmpty(x reflect.Value) {
	switch x.Kind() {
	case reflect.Struct:
		for i := range x.NumField() {
			fillEmpty(x.Field(i))
		}
	case reflect.Slice:
		if x.IsNil() {
			x.Set(reflect.MakeSlice(x.Type(), 0, 3))
		}
		for i := range x.Len() {
			fillEmpty(x.Index(i))
		}
	}
}

// variations yields copies of x that differ from it in one field of one part, or in the length of one list.
func variations[T any](x T, visit func(T, string)) {
	root := reflect.New(reflect.TypeOf(x))
	root.Elem().Set(cloned(reflect.ValueOf(x)))
	vary(root.Elem(), "", func(how string) { visit(clone(root.Elem().Interface().(T)), how) })
}

func vary(x reflect.Value, how string, visit func(string)) {
	old := reflect.New(x.Type()).Elem()
	old.Set(x)
	changed := func(to any) {
		x.Set(reflect.ValueOf(to).Convert(x.Type()))
		visit(how)
		x.Set(old)
	}
	switch x.Kind() {
	case reflect.Int:
		changed(x.Int() + 1)
	case reflect.String:
		changed(x.String() + "q")
	case reflect.Bool:
		changed(!x.Bool())
	case reflect.Struct:
		for i := range x.NumField() {
			vary(x.Field(i), how+"."+x.Type().Field(i).Name, visit)
		}
	case reflect.Slice:
		for i := range x.Len() {
			vary(x.Index(i), fmt.Sprintf("%s[%d]", how, i), visit)
		}
		longer := reflect.Append(cloned(x), reflect.Zero(x.Type().Elem()))
		if x.Len() > 0 {
			longer.Index(x.Len()).Set(cloned(x.Index(x.Len() - 1)))
			changed(x.Slice(0, x.Len()-1).Interface())
		}
		changed(longer.Interface())
	}
}
