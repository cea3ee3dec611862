package parse_test

import (
	"math/rand"
	"slices"
	"strings"

	"manorboy/api"
	"manorboy/lex"
	"manorboy/real"
	"manorboy/tree"
)

// span are the tokens of a part, from an index up to another one.
type span struct{ from, to int }

// writer writes the tokens of random parts, as the syntax allows them: with parentheses and signs + that are not needed, arrays that are declared together, and headings in any order. It keeps which tokens are those of each part, in the order of the numbers of the parts. A depth is how deep a part is at most.
type writer struct {
	*rand.Rand
	tokens []api.Token
	spans  []span
}

func newWriter(seed int64) *writer { return &writer{Rand: rand.New(rand.NewSource(seed))} }

// clear makes the writer begin anew.
func (w *writer) clear() { w.tokens, w.spans = nil, nil }

func (w *writer) from(least, most int) int { return least + w.Intn(most-least+1) }

// once reports true once in n times.
func (w *writer) once(n int) bool { return w.Intn(n) == 0 }

func (w *writer) put(texts ...string) {
	for _, text := range texts {
		kind := api.TkSign
		if lex.IsWord(text) {
			kind = api.TkWord
		} else if lex.IsName(text) {
			kind = api.TkName
		}
		w.tokens = append(w.tokens, api.Token{Kind: kind, Text: text})
	}
}

// part writes a part that begins with the next token.
func (w *writer) part(write func()) { w.partFrom(len(w.tokens), write) }

// partFrom writes a part that has begun.
func (w *writer) partFrom(from int, write func()) {
	number := len(w.spans)
	w.spans = append(w.spans, span{})
	write()
	w.spans[number] = span{from, len(w.tokens)}
}

// listOf writes from least to most elements, with a sign between them.
func listOf[T any](w *writer, sign string, least, most int, write func() T) []T {
	var list []T
	for range w.from(least, most) {
		if len(list) > 0 {
			w.put(sign)
		}
		list = append(list, write())
	}
	return list
}

func (w *writer) name() string {
	names := []string{"a", "b", "x", "x1", "begins", "e5", "abcdefghijklmnop", "comments", "f"}
	name := names[w.Intn(len(names))]
	w.put(name)
	return name
}

// shape is how an operator is written.
type shape struct {
	text               string
	level, left, right int
}

var shapes = map[int]shape{
	api.OpNeg: {"-", 7, 0, 8}, api.OpNot: {"not", 5, 0, 6},
	api.OpAdd: {"+", 7, 7, 8}, api.OpSub: {"-", 7, 7, 8}, api.OpMul: {"*", 8, 8, 9}, api.OpDiv: {"/", 8, 8, 9}, api.OpQuo: {"//", 8, 8, 9}, api.OpPow: {"^", 9, 9, 10},
	api.OpLt: {"<", 6, 7, 7}, api.OpLe: {"<=", 6, 7, 7}, api.OpEq: {"=", 6, 7, 7}, api.OpNe: {"/=", 6, 7, 7}, api.OpGe: {">=", 6, 7, 7}, api.OpGt: {">", 6, 7, 7},
	api.OpAnd: {"and", 4, 4, 5}, api.OpOr: {"or", 3, 3, 4}, api.OpImp: {"imp", 2, 2, 3}, api.OpEqv: {"eqv", 1, 1, 2},
}

// exp writes an expression where the syntax asks for a level.
func (w *writer) exp(level, depth int) (e api.Exp) {
	if level <= 7 && w.once(12) {
		w.put("+")
		return w.exp(8, depth)
	}
	if w.once(8) {
		return w.enclosed(func() api.Exp { return w.exp(0, depth) })
	}
	e.Kind = w.from(api.ExInt, api.ExIf)
	if depth <= 1 {
		e.Kind = w.from(api.ExInt, api.ExName)
	}
	own := 10
	switch e.Kind {
	case api.ExOne:
		e.Op = w.from(api.OpNeg, api.OpNot)
		own = shapes[e.Op].level
	case api.ExTwo:
		e.Op = w.from(api.OpAdd, api.OpEqv)
		own = shapes[e.Op].level
	case api.ExIf:
		own = 0
	}
	write := func() api.Exp {
		w.part(func() { w.inside(&e, depth) })
		return e
	}
	if own < level {
		return w.enclosed(write)
	}
	return write()
}

func (w *writer) enclosed(write func() api.Exp) api.Exp {
	w.put("(")
	e := write()
	w.put(")")
	return e
}

// inside writes an expression of which the kind and the operator have been chosen.
func (w *writer) inside(e *api.Exp, depth int) {
	switch e.Kind {
	case api.ExInt:
		e.N = w.Intn(api.MaxInt) >> w.Intn(31)
		w.tokens = append(w.tokens, api.Token{Kind: api.TkInt, N: e.N})
	case api.ExReal:
		e.Real, _ = real.At(w.Intn(api.MaxIndex + 1))
		w.tokens = append(w.tokens, api.Token{Kind: api.TkReal, Real: e.Real})
	case api.ExTrue:
		w.put("true")
	case api.ExFalse:
		w.put("false")
	case api.ExString:
		texts := []string{"", "a", "(", "end", "it's", "and", ":=", " x "}
		e.Text = texts[w.Intn(len(texts))]
		w.tokens = append(w.tokens, api.Token{Kind: api.TkString, Text: e.Text})
	case api.ExName:
		e.Text = w.name()
	case api.ExIndex:
		e.Text = w.name()
		w.put("[")
		e.Args = w.exps(1, 4, depth-1)
		w.put("]")
	case api.ExCall:
		e.Text = w.name()
		w.put("(")
		e.Args = w.exps(1, w.from(1, 8), depth-1)
		w.put(")")
	case api.ExOne, api.ExTwo:
		x := shapes[e.Op]
		if e.Kind == api.ExTwo {
			e.Args = append(e.Args, w.exp(x.left, depth-1))
		}
		w.put(x.text)
		e.Args = append(e.Args, w.exp(x.right, depth-1))
	case api.ExIf:
		for _, place := range []struct {
			word  string
			level int
		}{{"if", 1}, {"then", 1}, {"else", 0}} {
			w.put(place.word)
			e.Args = append(e.Args, w.exp(place.level, depth-1))
		}
	}
}

func (w *writer) exps(least, most, depth int) []api.Exp {
	return listOf(w, ",", least, most, func() api.Exp { return w.exp(0, depth) })
}

func (w *writer) target(depth int) (e api.Exp) {
	w.part(func() {
		e = api.Exp{Kind: api.ExName, Text: w.name()}
		if depth > 1 && w.once(2) {
			w.put("[")
			e.Kind, e.Args = api.ExIndex, w.exps(1, 4, depth-1)
			w.put("]")
		}
	})
	return e
}

func (w *writer) elem(depth int) (f api.Elem) {
	w.part(func() {
		f.Kind = w.from(api.FeOnce, api.FeWhile)
		f.Exps = w.exps(1, 1, depth-1)
		words := [][]string{api.FeOnce: nil, api.FeStep: {"step", "until"}, api.FeWhile: {"while"}}
		for _, word := range words[f.Kind] {
			w.put(word)
			f.Exps = append(f.Exps, w.exp(0, depth-1))
		}
	})
	return f
}

// labels writes labels, sometimes.
func (w *writer) labels() (labels []string) {
	if w.once(5) {
		for range w.from(1, 2) {
			labels = append(labels, w.name())
			w.put(":")
		}
	}
	return labels
}

// stmt writes a statement, of one of some kinds if they are named.
func (w *writer) stmt(depth int, kinds ...int) (s api.Stmt) {
	w.part(func() {
		s.Labels = w.labels()
		if kinds == nil {
			kinds = []int{api.StEmpty, api.StAssign, api.StGoto, api.StIf, api.StFor, api.StCall, api.StBlock, api.StList}
		}
		s.Kind = kinds[w.Intn(len(kinds))]
		if depth <= 1 {
			s.Kind = []int{api.StEmpty, api.StCall}[w.Intn(2)]
		}
		w.insideStmt(&s, depth)
	})
	return s
}

func (w *writer) insideStmt(s *api.Stmt, depth int) {
	switch s.Kind {
	case api.StAssign:
		for range w.from(1, 3) {
			s.Targets = append(s.Targets, w.target(depth-1))
			w.put(":=")
		}
		s.Exps = w.exps(1, 1, depth-1)
	case api.StGoto:
		w.put("goto")
		s.Exps = w.exps(1, 1, depth-1)
	case api.StIf:
		w.put("if")
		s.Exps = w.exps(1, 1, depth-1)
		w.put("then")
		s.Body = []api.Stmt{w.stmt(depth-1, api.StEmpty, api.StAssign, api.StGoto, api.StCall, api.StBlock, api.StList)}
		if w.once(2) {
			w.put("else")
			s.Body = append(s.Body, w.stmt(depth-1))
		}
	case api.StFor:
		w.put("for")
		s.Targets = []api.Exp{w.target(depth - 1)}
		w.put(":=")
		s.For = listOf(w, ",", 1, 3, func() api.Elem { return w.elem(depth - 1) })
		w.put("do")
		s.Body = []api.Stmt{w.stmt(depth - 1)}
	case api.StCall:
		s.Text = w.name()
		if depth > 1 && w.once(2) {
			w.put("(")
			s.Exps = w.exps(1, w.from(1, 8), depth-1)
			w.put(")")
		}
	case api.StBlock, api.StList:
		w.put("begin")
		if s.Kind == api.StBlock {
			for range w.from(1, 3) {
				s.Decls = append(s.Decls, w.decls(depth-1)...)
				w.put(";")
			}
		}
		s.Body = listOf(w, ";", 1, 3, func() api.Stmt { return w.stmt(depth - 1) })
		w.put("end")
	}
}

func typeWord(typ int) []string {
	return [][]string{nil, {"integer"}, {"real"}, {"boolean"}}[typ]
}

func (w *writer) names() []string { return listOf(w, ",", 1, 3, w.name) }

// decls writes a declaration, which can be that of several arrays.
func (w *writer) decls(depth int) []api.Decl {
	kind := w.from(api.DeVar, api.DeProc)
	if depth <= 1 {
		kind = api.DeVar
	}
	if kind == api.DeArray {
		return w.arrays(depth)
	}
	d := api.Decl{Kind: kind}
	w.part(func() {
		switch kind {
		case api.DeVar:
			d.Own, d.Type = w.once(2), w.from(api.TyInt, api.TyBool)
			if d.Own {
				w.put("own")
			}
			w.put(typeWord(d.Type)...)
			d.Names = w.names()
		case api.DeSwitch:
			w.put("switch")
			d.Names = []string{w.name()}
			w.put(":=")
			d.Exps = w.exps(1, 3, depth-1)
		case api.DeProc:
			d.Type = w.from(api.TyNone, api.TyBool)
			w.put(typeWord(d.Type)...)
			w.put("procedure")
			d.Names = []string{w.name()}
			d.Formals = w.heading()
			d.Body = []api.Stmt{w.stmt(depth - 1)}
		}
	})
	return []api.Decl{d}
}

func (w *writer) arrays(depth int) (decls []api.Decl) {
	from := len(w.tokens)
	first := api.Decl{Kind: api.DeArray, Own: w.once(3), Type: w.from(api.TyInt, api.TyBool)}
	if first.Own {
		w.put("own")
	}
	if first.Own || first.Type != api.TyReal || w.once(2) {
		w.put(typeWord(first.Type)...)
	}
	w.put("array")
	for i := range w.from(1, 3) {
		if i > 0 {
			w.put(",")
			from = len(w.tokens)
		}
		d := first
		w.partFrom(from, func() {
			d.Names = w.names()
			w.put("[")
			for i := range w.from(1, 4) {
				if i > 0 {
					w.put(",")
				}
				lower := w.exp(0, min(depth-1, 3))
				w.put(":")
				d.Exps = append(d.Exps, lower, w.exp(0, min(depth-1, 3)))
			}
			w.put("]")
		})
		decls = append(decls, d)
	}
	return decls
}

// validFormals are all formal parameters with a name that are valid.
func validFormals(name string) []api.Formal {
	list := []api.Formal{{Name: name}, {Name: name, Spec: api.SpLabel}, {Name: name, Spec: api.SpSwitch}, {Name: name, Spec: api.SpString}}
	for typ := api.TyNone; typ <= api.TyBool; typ++ {
		list = append(list, api.Formal{Name: name, Spec: api.SpArray, Type: typ}, api.Formal{Name: name, Spec: api.SpProc, Type: typ})
		if typ != api.TyNone {
			list = append(list, api.Formal{Name: name, Spec: api.SpVar, Type: typ})
			list = append(list, api.Formal{Name: name, Spec: api.SpVar, Type: typ, Value: true}, api.Formal{Name: name, Spec: api.SpArray, Type: typ, Value: true})
		}
	}
	return list
}

func specifierWords(f api.Formal) []string {
	words := typeWord(f.Type)
	switch f.Spec {
	case api.SpArray:
		return append(words, "array")
	case api.SpLabel:
		return []string{"label"}
	case api.SpSwitch:
		return []string{"switch"}
	case api.SpString:
		return []string{"string"}
	case api.SpProc:
		return append(words, "procedure")
	}
	return words
}

// heading writes what is between the identifier of a procedure and its statement. The order of values and specifiers is any, and what is specified equally may stand behind one specifier.
func (w *writer) heading() (formals []api.Formal) {
	names := []string{"z", "y", "x", "abcdefghijklmnop", "a", "f", "r2d2", "q"}
	for _, name := range names[:w.from(0, 8)] {
		list := validFormals(name)
		formals = append(formals, list[w.Intn(len(list))])
	}
	for i, f := range formals {
		w.put([]string{"(", ","}[min(i, 1)], f.Name)
	}
	if len(formals) > 0 {
		w.put(")")
	}
	w.put(";")
	mixed := slices.Clone(formals)
	w.shuffle(mixed)
	count := 0
	for _, f := range mixed {
		if f.Value {
			w.put([]string{"value", ","}[min(count, 1)], f.Name)
			count++
		}
	}
	if count > 0 {
		w.put(";")
	}
	w.shuffle(mixed)
	last := ""
	for _, f := range mixed {
		words := specifierWords(f)
		if f.Spec == api.SpNone {
			continue
		}
		if this := strings.Join(words, " "); last != "" && this == last {
			w.put(",")
		} else {
			if last != "" {
				w.put(";")
			}
			w.put(words...)
			last = this
		}
		w.put(f.Name)
	}
	if last != "" {
		w.put(";")
	}
	return formals
}

func (w *writer) shuffle(formals []api.Formal) {
	w.Shuffle(len(formals), func(i, j int) { formals[i], formals[j] = formals[j], formals[i] })
}

// program writes a program that is within the limits.
func (w *writer) program(depth int) api.Stmt {
	for {
		w.clear()
		s := w.stmt(depth, api.StBlock, api.StList)
		if (s.Kind == api.StBlock || s.Kind == api.StList) && tree.Check(s) == api.OK {
			return s
		}
	}
}

// text writes the tokens as a text, with blanks and comments, and sets their offsets.
func (w *writer) text() string {
	var text strings.Builder
	text.WriteString(w.blanks())
	for i := range w.tokens {
		t := &w.tokens[i]
		spelt, _, _ := lex.Print([]api.Token{*t})
		t.At, t.End = text.Len(), text.Len()+len(spelt)
		text.WriteString(spelt)
		isEnd := t.Kind == api.TkWord && t.Text == "end"
		isSemicolon := t.Kind == api.TkSign && t.Text == ";"
		isBegin := t.Kind == api.TkWord && t.Text == "begin"
		if isEnd && w.once(3) {
			comments := []string{" of x", " \"( begin := ", " 1.2.3 e", "\n$ comment\t"}
			text.WriteString(comments[w.Intn(len(comments))])
		}
		if i+1 < len(w.tokens) && areDistinct(*t, w.tokens[i+1]) && w.once(2) {
			continue
		}
		text.WriteString(w.blanks())
		if (isBegin || isSemicolon) && w.once(3) {
			comments := []string{"comment;", "comment a := ( begin end;", "comment \" comment $;"}
			text.WriteString(comments[w.Intn(len(comments))] + w.blanks())
		}
	}
	return text.String()
}

func (w *writer) blanks() string {
	return []string{" ", "  ", "\n", "\t ", "\r\n"}[w.Intn(5)]
}

// areDistinct reports whether two tokens need no blank between them.
func areDistinct(t, next api.Token) bool {
	isPair := func(t api.Token) bool { return t.Kind == api.TkSign && strings.Contains("()[],;", t.Text) }
	return isPair(t) || isPair(next)
}

// pieces returns where the parts lie in the text that has been written.
func (w *writer) pieces() []api.Piece {
	var pieces []api.Piece
	for _, s := range w.spans {
		last := w.tokens[s.to-1].End
		if s.from == s.to {
			pieces = append(pieces, api.Piece{At: last, End: last})
		} else {
			pieces = append(pieces, api.Piece{At: w.tokens[s.from].At, End: last})
		}
	}
	return pieces
}
