package parse_test

import (
	"fmt"
	"strings"

	"manorboy/api"
	"manorboy/real"
)

// The following functions show trees as lists within parentheses, so that tables of tests are short.

var opNames = map[int]string{
	api.OpNeg: "neg", api.OpNot: "not", api.OpAdd: "+", api.OpSub: "-", api.OpMul: "*", api.OpDiv: "/", api.OpQuo: "//", api.OpPow: "^",
	api.OpLt: "<", api.OpLe: "<=", api.OpEq: "=", api.OpNe: "/=", api.OpGe: ">=", api.OpGt: ">",
	api.OpAnd: "and", api.OpOr: "or", api.OpImp: "imp", api.OpEqv: "eqv",
}

func group(items ...string) string { return "(" + strings.Join(items, " ") + ")" }

func showAll[T any](list []T, show func(T) string) []string {
	var items []string
	for _, x := range list {
		items = append(items, show(x))
	}
	return items
}

func showExp(e api.Exp) string {
	args := showAll(e.Args, showExp)
	switch e.Kind {
	case api.ExInt:
		return fmt.Sprint(e.N)
	case api.ExReal:
		text, _ := real.Print(e.Real)
		return text
	case api.ExTrue:
		return "true"
	case api.ExFalse:
		return "false"
	case api.ExString:
		return fmt.Sprintf("%q", e.Text)
	case api.ExName:
		return e.Text
	case api.ExIndex:
		return group(append([]string{"index", e.Text}, args...)...)
	case api.ExCall:
		return group(append([]string{"call", e.Text}, args...)...)
	case api.ExOne, api.ExTwo:
		return group(append([]string{opNames[e.Op]}, args...)...)
	case api.ExIf:
		return group(append([]string{"if"}, args...)...)
	}
	return fmt.Sprintf("?%v", e)
}

func showElem(f api.Elem) string {
	names := map[int]string{api.FeOnce: "once", api.FeStep: "step", api.FeWhile: "while"}
	return group(append([]string{names[f.Kind]}, showAll(f.Exps, showExp)...)...)
}

func showFormal(f api.Formal) string {
	words := specifierWords(f)
	if f.Value {
		words = append([]string{"value"}, words...)
	}
	if len(words) == 0 {
		return f.Name
	}
	return f.Name + ":" + strings.Join(words, "-")
}

func showDecl(d api.Decl) string {
	var words []string
	if d.Own {
		words = append(words, "own")
	}
	words = append(words, typeWord(d.Type)...)
	names := group(d.Names...)
	switch d.Kind {
	case api.DeVar:
		words = append(words, names)
	case api.DeArray:
		words = append(words, "array", names)
	case api.DeSwitch:
		words = append(words, "switch", names)
	case api.DeProc:
		words = append(words, "procedure", names, group(showAll(d.Formals, showFormal)...))
	}
	words = append(words, showAll(d.Exps, showExp)...)
	return group(append(words, showAll(d.Body, showStmt)...)...)
}

func showStmt(s api.Stmt) string {
	kinds := map[int]string{
		api.StEmpty: "empty", api.StAssign: "assign", api.StGoto: "goto", api.StIf: "if", api.StFor: "for",
		api.StCall: "call", api.StBlock: "block", api.StList: "list",
	}
	words := []string{kinds[s.Kind]}
	if s.Text != "" {
		words = append(words, s.Text)
	}
	if s.Targets != nil {
		words = append(words, group(showAll(s.Targets, showExp)...))
	}
	words = append(words, showAll(s.Exps, showExp)...)
	words = append(words, showAll(s.For, showElem)...)
	words = append(words, showAll(s.Decls, showDecl)...)
	words = append(words, showAll(s.Body, showStmt)...)
	labels := ""
	for _, label := range s.Labels {
		labels += label + ": "
	}
	return labels + group(words...)
}
