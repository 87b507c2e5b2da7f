package query

import (
	"strconv"

	"penstock/api"
	"penstock/expr"
	"penstock/lexer"
	"penstock/value"
)

// Ranks of signs: those of one rank stand in a row, those of a greater one bind closer.
const (
	rankOr = iota
	rankAnd
	rankCompare
	rankSum
	rankProduct
)

// sign between two parts: which node is made of them; turned: of the second and the first; denied: Not of that.
type sign struct {
	rank, op       int
	turned, denied bool
}

// parser of a question's words, by one method a rule.
type parser struct {
	words []string // those that are not read yet
	signs map[string]sign
	deep  int   // how many brackets, and words ahead, are around what is read now
	err   error // the first one; behind it nothing is read any more
}

// Parse a question.
func Parse(s string) (api.Query, error) {
	words, err := lexer.Words(s)
	if err != nil {
		return api.Query{}, err
	}
	p := parser{words: words, signs: signs()}
	q := p.question()
	if p.err != nil {
		return api.Query{}, p.err
	}
	if err := Check(q); err != nil {
		return api.Query{}, err
	}
	return q, nil
}

func signs() map[string]sign {
	return map[string]sign{
		"or":  {rank: rankOr, op: api.Or},
		"and": {rank: rankAnd, op: api.And},
		"<":   {rank: rankCompare, op: api.Less},
		">":   {rank: rankCompare, op: api.Less, turned: true},
		"<=":  {rank: rankCompare, op: api.Less, turned: true, denied: true},
		">=":  {rank: rankCompare, op: api.Less, denied: true},
		"=":   {rank: rankCompare, op: api.Same},
		"<>":  {rank: rankCompare, op: api.Same, denied: true},
		"+":   {rank: rankSum, op: api.Add},
		"-":   {rank: rankSum, op: api.Sub},
		"*":   {rank: rankProduct, op: api.Mul},
	}
}

// question: the whole of the words.
func (p *parser) question() api.Query {
	var q api.Query
	p.must("select")
	q.Aggs = append(q.Aggs, p.agg())
	for p.take(",") {
		q.Aggs = append(q.Aggs, p.agg())
	}
	p.must("from")
	p.must("events")
	if p.take("where") {
		q.Where = p.expr()
	}
	if p.take("group") {
		p.must("by")
		q.By = p.expr()
	}
	p.must("window")
	q.Size = p.span()
	q.Slide = q.Size
	if p.take("slide") {
		q.Slide = p.span()
	}
	if p.take("delay") {
		q.Delay = p.span()
	}
	if p.take("late") {
		q.Late = p.span()
	}
	if len(p.words) > 0 {
		p.fail(api.ErrText)
	}
	return q
}

func (p *parser) agg() api.Agg {
	kind := p.aggKind()
	p.must("(")
	if kind == api.CountOf && p.take("*") {
		p.must(")")
		return api.Agg{Kind: api.Count}
	}
	of := p.expr()
	p.must(")")
	return api.Agg{Kind: kind, Of: of}
}

// aggKind of what has an expression.
func (p *parser) aggKind() int {
	for kind := api.CountOf; kind <= api.Max; kind++ {
		if p.take(aggName(kind)) {
			return kind
		}
	}
	p.fail(api.ErrText)
	return 0
}

func (p *parser) expr() []api.Node { return p.row(rankOr, p.and) }

func (p *parser) and() []api.Node { return p.row(rankAnd, p.not) }

func (p *parser) not() []api.Node {
	if p.take("not") {
		return p.join(api.Not, p.deeper(p.not), nil)
	}
	return p.compare()
}

// compare: at most one sign, or 'is', since what it says is no number that could be compared again.
func (p *parser) compare() []api.Node {
	x := p.sum()
	if p.take("is") {
		return p.isNull(x)
	}
	if s, ok := p.takeSign(rankCompare); ok {
		return p.joinBy(s, x, p.sum())
	}
	return x
}

// isNull: what stands behind 'is'.
func (p *parser) isNull(x []api.Node) []api.Node {
	denied := p.take("not")
	p.must("null")
	l := p.join(api.IsNull, x, nil)
	if denied {
		l = p.join(api.Not, l, nil)
	}
	return l
}

func (p *parser) sum() []api.Node { return p.row(rankSum, p.product) }

func (p *parser) product() []api.Node { return p.row(rankProduct, p.unary) }

func (p *parser) unary() []api.Node {
	if p.take("-") {
		return p.join(api.Neg, p.deeper(p.unary), nil)
	}
	return p.atom()
}

func (p *parser) atom() []api.Node {
	if p.take("(") {
		l := p.deeper(p.expr)
		p.must(")")
		return l
	}
	n, ok := leaf(p.next())
	if !ok {
		p.fail(api.ErrText)
		return nil
	}
	p.skip()
	return []api.Node{n}
}

// leaf: the node of a word that stands for itself; false: it doesn't.
func leaf(word string) (api.Node, bool) {
	for i, name := range fieldNames {
		if word == name {
			return api.Node{Op: api.Field, N: i}, true
		}
	}
	if v, err := value.Parse(word); err == nil {
		return api.Node{Op: api.Const, Val: v}, true
	}
	// No value's text has noughts ahead, but a number of a question may.
	n, ok := number(word, api.Most)
	if !ok {
		return api.Node{}, false
	}
	return api.Node{Op: api.Const, Val: value.Number(n)}, true
}

// row of parts with signs of a rank between, put together from the left.
func (p *parser) row(rank int, part func() []api.Node) []api.Node {
	l := part()
	for {
		s, ok := p.takeSign(rank)
		if !ok {
			return l
		}
		l = p.joinBy(s, l, part())
	}
}

// deeper: what is read inside a bracket, or behind a word that stands ahead of it.
func (p *parser) deeper(read func() []api.Node) []api.Node {
	if p.deep == api.MaxDeep {
		p.fail(api.ErrMany)
		return nil
	}
	p.deep++
	l := read()
	p.deep--
	return l
}

// joinBy a sign that stands between two parts.
func (p *parser) joinBy(s sign, x, y []api.Node) []api.Node {
	if s.turned {
		x, y = y, x
	}
	l := p.join(s.op, x, y)
	if s.denied {
		l = p.join(api.Not, l, nil)
	}
	return l
}

// join parts by a node; behind an error there are none to join.
func (p *parser) join(op int, x, y []api.Node) []api.Node {
	if p.err != nil {
		return nil
	}
	l := expr.Join(op, x, y)
	if len(l) > api.MaxNodes {
		p.fail(api.ErrMany)
		return nil
	}
	return l
}

// span: the number of a window, or of what is waited for.
func (p *parser) span() int {
	n, ok := number(p.next(), api.MaxSpan)
	if !ok {
		p.fail(api.ErrText)
		return 0
	}
	p.skip()
	return n
}

// number of a word; false: it is none, or above most.
func number(word string, most int) (int, bool) {
	n, err := strconv.Atoi(word)
	if err != nil || n > most {
		return 0, false
	}
	return n, true
}

// next word; empty: there is none.
func (p *parser) next() string {
	if len(p.words) == 0 {
		return ""
	}
	return p.words[0]
}

// skip the next word, which is there.
func (p *parser) skip() { p.words = p.words[1:] }

// take the next word, if it is this one.
func (p *parser) take(word string) bool {
	if p.next() != word {
		return false
	}
	p.skip()
	return true
}

// takeSign: the next word, if it is a sign of that rank.
func (p *parser) takeSign(rank int) (sign, bool) {
	s, ok := p.signs[p.next()]
	if !ok || s.rank != rank {
		return sign{}, false
	}
	p.skip()
	return s, true
}

// must: the next word is this one.
func (p *parser) must(word string) {
	if !p.take(word) {
		p.fail(api.ErrText)
	}
}

// fail: the first error stays, and with no word left all that is being read ends.
func (p *parser) fail(err error) {
	if p.err == nil {
		p.err = err
	}
	p.words = nil
}
