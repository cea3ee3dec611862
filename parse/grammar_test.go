package parse_test

import (
	"fmt"
	"slices"
	"strings"

	"manorboy/api"
	"manorboy/lex"
)

// rules are the rules of the chapter, without its abbreviations: the alternatives of a rule stand between bars. Tokens that are neither signs nor words are written NAME, INT, REAL and STRING. Further rules, for lists that are limited, are made by newGrammar.
const rules = `
program = labels begin body end
labels = | labels NAME :
statement = labels unlabelled
closed = labels simple
unlabelled = simple | if expression then closed | if expression then closed else statement | for target := elements do statement
simple = | targets expression | goto expression | NAME | NAME ( expression8 ) | begin body end
targets = target := | targets target :=
statements = statement | statements ; statement
body = statements | declarations statements
declarations = declaration ; | declarations declaration ;
target = NAME | NAME [ expression4 ]
elements = element | elements , element
element = expression | expression step expression until expression | expression while expression
declaration = variables | arrays | switch NAME := expressions | routine
type = integer | real | boolean
names = NAME | names , NAME
variables = type names | own type names
arrays = array segments | type array segments | own type array segments
segments = segment | segments , segment
segment = names [ bounds4 ]
bounds = expression : expression
routine = head ; values specifiers statement
head = procedure NAME formals | type procedure NAME formals
formals = | ( NAME8 )
values = | value names ;
specifiers = | specifiers specifier names ;
specifier = type | array | type array | procedure | type procedure | label | switch | string
expressions = expression | expressions , expression
expression = if level1 then level1 else expression | level1
level1 = level2 | level1 eqv level2
level2 = level3 | level2 imp level3
level3 = level4 | level3 or level4
level4 = level5 | level4 and level5
level5 = level6 | not level6
level6 = level7 | level7 < level7 | level7 <= level7 | level7 = level7 | level7 /= level7 | level7 >= level7 | level7 > level7
level7 = level8 | + level8 | - level8 | level7 + level8 | level7 - level8
level8 = level9 | level8 * level9 | level8 / level9 | level8 // level9
level9 = level10 | level9 ^ level10
level10 = INT | REAL | STRING | true | false | NAME | NAME [ expression4 ] | NAME ( expression8 ) | ( expression )
`

// grammar are rules: the alternatives of each name.
type grammar map[string][][]string

func newGrammar() grammar {
	g := grammar{}
	for _, line := range strings.Split(strings.TrimSpace(rules), "\n") {
		name, alternatives, _ := strings.Cut(line, " =")
		if lex.IsWord(name) {
			panic("a rule has the name of a word: " + name)
		}
		for _, alternative := range strings.Split(alternatives, "|") {
			g[name] = append(g[name], strings.Fields(alternative))
		}
	}
	g.limited("expression", 4)
	g.limited("expression", 8)
	g.limited("bounds", 4)
	g.limited("NAME", 8)
	return g
}

// limited makes the rule for a list of at most so many elements.
func (g grammar) limited(element string, most int) {
	name := func(n int) string {
		if n == most {
			return fmt.Sprint(element, n)
		}
		return fmt.Sprint(element, n, "of", most)
	}
	for n := 1; n <= most; n++ {
		g[name(n)] = [][]string{{element}}
		if n > 1 {
			g[name(n)] = append(g[name(n)], []string{element, ",", name(n - 1)})
		}
	}
}

// state is an alternative of which so many symbols have been read, from a token on.
type state struct {
	name        string
	alternative int
	read, from  int
}

// recognizer reads tokens by all ways that a grammar allows at once (by the method of Earley). Of the last set it knows which states it has.
type recognizer struct {
	grammar
	sets [][]state
	has  map[state]bool
}

func newRecognizer(g grammar, start string) *recognizer {
	r := &recognizer{grammar: g}
	r.newSet()
	r.predict(start, 0)
	r.close()
	return r
}

func (r *recognizer) newSet() {
	r.sets = append(r.sets, nil)
	r.has = map[state]bool{}
}

func (r *recognizer) add(x state) {
	last := len(r.sets) - 1
	if !r.has[x] {
		r.has[x] = true
		r.sets[last] = append(r.sets[last], x)
	}
}

func (r *recognizer) predict(name string, from int) {
	for i := range r.grammar[name] {
		r.add(state{name, i, 0, from})
	}
}

// next returns the symbol that a state reads next.
func (r *recognizer) next(x state) (symbol string, found bool) {
	symbols := r.grammar[x.name][x.alternative]
	if x.read == len(symbols) {
		return "", false
	}
	return symbols[x.read], true
}

// close adds all states that follow from those of the last set.
func (r *recognizer) close() {
	last := len(r.sets) - 1
	for again := true; again; {
		before := len(r.sets[last])
		for i := 0; i < len(r.sets[last]); i++ {
			x := r.sets[last][i]
			symbol, found := r.next(x)
			if found {
				r.predict(symbol, last)
				continue
			}
			for _, outer := range r.sets[x.from] {
				if symbol, found := r.next(outer); found && symbol == x.name {
					outer.read++
					r.add(outer)
				}
			}
		}
		// Names of which nothing is read ask for a further look.
		again = len(r.sets[last]) > before
	}
}

// expected returns the tokens that can follow.
func (r *recognizer) expected() map[string]bool {
	symbols := map[string]bool{}
	for _, x := range r.sets[len(r.sets)-1] {
		if symbol, found := r.next(x); found && r.grammar[symbol] == nil {
			symbols[symbol] = true
		}
	}
	return symbols
}

// complete reports whether the tokens are those of a rule.
func (r *recognizer) complete(start string) bool {
	return slices.ContainsFunc(r.sets[len(r.sets)-1], func(x state) bool {
		_, found := r.next(x)
		return !found && x.name == start && x.from == 0
	})
}

// symbolOf returns how the rules write a token.
func symbolOf(t api.Token) string {
	switch t.Kind {
	case api.TkName:
		return "NAME"
	case api.TkInt:
		return "INT"
	case api.TkReal:
		return "REAL"
	case api.TkString:
		return "STRING"
	default:
		return t.Text
	}
}

// read reads a token, if it can follow.
func (r *recognizer) read(t api.Token) bool {
	symbol := symbolOf(t)
	if !r.expected()[symbol] {
		return false
	}
	last := r.sets[len(r.sets)-1]
	r.newSet()
	for _, x := range last {
		if next, found := r.next(x); found && next == symbol {
			x.read++
			r.add(x)
		}
	}
	r.close()
	return true
}

// firstWrong returns the error and the index of the first token, or of the end, that is wrong by a rule.
func (g grammar) firstWrong(start string, tokens []api.Token) (api.Errno, int) {
	r := newRecognizer(g, start)
	open := 0
	for i, t := range tokens {
		if !r.read(t) {
			return api.ErrForm, i
		}
		switch symbolOf(t) {
		case "(", "[", "begin":
			open++
		case ")", "]", "end":
			open--
		}
		if open > api.MaxOpen {
			return api.ErrLimit, i
		}
	}
	if !r.complete(start) {
		return api.ErrForm, len(tokens)
	}
	return api.OK, 0
}
