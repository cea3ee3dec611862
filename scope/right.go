package scope

import "manorboy/api"

// The positions of expressions. Sets are unions of bits.
const (
	value   = 1
	target  = 2
	goal    = 4
	actual  = 8
	choice  = 16
	nowhere = 32 // a statement has no position

	anywhere = value | target | goal | actual | choice | nowhere
)

// The forms of the parts that the table names. Sets are unions of bits.
const (
	numbers        = 1<<api.ExInt | 1<<api.ExReal
	truths         = 1<<api.ExTrue | 1<<api.ExFalse
	operations     = 1<<api.ExOne | 1<<api.ExTwo
	texts          = 1 << api.ExString
	conditionals   = 1 << api.ExIf
	names          = 1 << api.ExName
	elements       = 1 << api.ExIndex
	calls          = 1 << api.ExCall
	procedureCalls = 1 << 0 // no kind of expressions is 0
	occurrences    = names | elements | calls | procedureCalls
)

// What an identifier can denote, as the table sees it. Sets are unions of bits.
const (
	nothing     = 1 // the part has no identifier
	variable    = 2
	array       = 4
	choices     = 8 // a switch
	label       = 16
	procedure   = 32
	function    = 64  // one is a procedure, too
	ownFunction = 128 // a function in whose body the part is; one is a function, too
	formal      = 256 // a formal parameter that is called by name
)

// anyCount stands for each number of subscripts or parameters.
const anyCount = -1

// thing is what an identifier denotes, and how many subscripts or parameters it has.
type thing struct{ kinds, count int }

// row is a row of the table: parts of these forms, in these positions, are right if they denote one of these things and, where it counts, have as many subscripts or parameters.
type row struct {
	forms, positions, things int
	counts                   bool
}

var rows = [...]row{
	{numbers | truths | operations, value | actual | choice, nothing, false},
	{texts, actual, nothing, false},
	{conditionals, anywhere, nothing, false},
	{names, value | target | actual | choice, variable, false},
	{names, actual, array | choices | procedure, false},
	{names, goal | actual | choice, label, false},
	{names, value | choice, function, true},
	{names, target, ownFunction, false},
	{elements, value | target | actual | choice, array, true},
	{elements, goal | actual | choice, choices, true},
	{calls, value | actual | choice, function, true},
	{procedureCalls, anywhere, procedure, true},
	{names | elements | procedureCalls, anywhere, formal, false},
	{calls, value | actual | choice, formal, false},
}

// standardProcedure is a standard procedure, and how many parameters it has.
type standardProcedure struct {
	name       string
	parameters int
	function   bool
}

var standard = [...]standardProcedure{
	{"outinteger", 1, false},
	{"outreal", 1, false},
	{"outboolean", 1, false},
	{"outstring", 1, false},
	{"inint", 0, true},
	{"abs", 1, true},
	{"sign", 1, true},
	{"entier", 1, true},
}

// positionOfExps returns the position of the Exps of a statement of a kind.
func positionOfExps(kind int) int {
	switch kind {
	case api.StGoto:
		return goal
	case api.StCall:
		return actual
	default:
		return value
	}
}

// positionOfArg returns the position of the element of the Args of an expression with an index.
func (p part) positionOfArg(index int) int {
	switch {
	case p.exp.Kind == api.ExCall:
		return actual
	case p.exp.Kind != api.ExIf || index == 0:
		return value
	case p.position == actual:
		return choice
	default:
		return p.position
	}
}

// form returns the form of a part; 0 if the table says nothing of it.
func (p part) form() int {
	switch {
	case p.exp != nil:
		return 1 << p.exp.Kind
	case p.stmt != nil && p.stmt.Kind == api.StCall:
		return procedureCalls
	default:
		return 0
	}
}

// problem returns the kind of the problem that a part has, besides that identifiers are declared twice; 0 if there is none.
func (p part) problem(parts []part) int {
	name := p.name()
	if name == "" {
		return p.judge(thing{kinds: nothing})
	}
	place, known := p.scope.lookup(name)
	switch {
	case p.bounded != nil && p.bounded.declares(name):
		return api.PrBound
	case !known:
		return api.PrUnknown
	default:
		return p.judge(p.denoted(parts, place))
	}
}

// judge returns the kind of the problem of a part that denotes a thing, by the table.
func (p part) judge(t thing) int {
	form := p.form()
	if form == 0 {
		return 0
	}
	problem := api.PrKind
search:
	for _, r := range rows {
		switch {
		case r.forms&form == 0 || r.positions&p.position == 0 || r.things&t.kinds == 0:
			continue
		case r.counts && t.count != anyCount && t.count != p.count():
			problem = api.PrCount
		default:
			problem = 0
			break search
		}
	}
	return problem
}

// denoted returns what is declared at a place, as the occurrence p of its identifier sees it.
func (p part) denoted(parts []part, place api.Place) thing {
	if place.Kind == api.BiStandard {
		s := standard[place.At]
		return procedureThing(s.parameters, s.function)
	}
	d := parts[place.Node].decl
	switch place.Kind {
	case api.BiVar:
		return thing{kinds: variable}
	case api.BiArray:
		return thing{kinds: array, count: len(d.Exps) / 2}
	case api.BiSwitch:
		return thing{kinds: choices, count: 1}
	case api.BiLabel:
		return thing{kinds: label}
	case api.BiFormal:
		return formalThing(d.Formals[place.At])
	}
	t := procedureThing(len(d.Formals), d.Type != api.TyNone)
	if t.kinds&function != 0 && p.scope.isWithin(place.Node) {
		t.kinds |= ownFunction
	}
	return t
}

func procedureThing(parameters int, isFunction bool) thing {
	t := thing{kinds: procedure, count: parameters}
	if isFunction {
		t.kinds |= function
	}
	return t
}

func formalThing(f api.Formal) thing {
	switch {
	case !f.Value:
		return thing{kinds: formal}
	case f.Spec == api.SpArray:
		return thing{kinds: array, count: anyCount}
	default:
		return thing{kinds: variable}
	}
}
