package filter

import (
	"strconv"
	"strings"

	"linkboy/addr"
	"linkboy/api"
	"linkboy/digits"
)

const (
	maxBytes = 1000
	maxDepth = 20
)

// names are the words of the steps that take nothing, by their Ops.
var names = [long + 1]string{"", "tcp", "udp", "icmp", "any", "src", "dst", "sport", "dport", "syn", "len"}

// parser is the words that are left of a text, the steps so far, how deep one is, and how deep one was.
type parser struct {
	words []string
	steps []Step
	depth int
	most  int
}

// Parse answers the filter that a text is.
func Parse(s string) ([]Step, api.Errno) {
	if len(s) > maxBytes {
		return nil, api.ErrBig
	}
	p := &parser{words: words(s)}
	if !p.expr() || len(p.words) > 0 {
		return nil, api.ErrForm
	}
	if len(p.steps) > maxSteps || p.most > maxDepth {
		return nil, api.ErrBig
	}
	return p.steps, api.OK
}

// words answers the words of a text.
func words(s string) []string {
	var l []string
	var word []rune
	end := func() {
		if len(word) > 0 {
			l, word = append(l, string(word)), nil
		}
	}
	for _, r := range s {
		switch r {
		case ' ':
			end()
		case '(', ')':
			end()
			l = append(l, string(r))
		default:
			word = append(word, r)
		}
	}
	end()
	return l
}

// next takes the next word; none is no word.
func (p *parser) next() string {
	if len(p.words) == 0 {
		return ""
	}
	word := p.words[0]
	p.words = p.words[1:]
	return word
}

// take takes the next word, if it is that one.
func (p *parser) take(word string) bool {
	if len(p.words) == 0 || p.words[0] != word {
		return false
	}
	p.next()
	return true
}

// put puts steps behind those so far.
func (p *parser) put(l ...Step) {
	p.steps = append(p.steps, l...)
}

// deeper reads something one deeper.
func (p *parser) deeper(read func() bool) bool {
	p.depth++
	p.most = max(p.most, p.depth)
	ok := read()
	p.depth--
	return ok
}

// expr reads what stands between "or".
func (p *parser) expr() bool {
	return p.row(p.term, "or", either)
}

// term reads what stands between "and".
func (p *parser) term() bool {
	return p.row(p.fact, "and", both)
}

// row reads parts with a word between, and puts that word's step behind each two.
func (p *parser) row(part func() bool, word string, op int) bool {
	if !part() {
		return false
	}
	for p.take(word) {
		if !part() {
			return false
		}
		p.put(Step{Op: op})
	}
	return true
}

// fact reads a fact.
func (p *parser) fact() bool {
	switch {
	case p.take("not"):
		ok := p.deeper(p.fact)
		p.put(Step{Op: not})
		return ok
	case p.take("("):
		return p.deeper(p.expr) && p.take(")")
	case p.take("host"):
		return p.net(fromNet, toNet)
	case p.take("port"):
		return p.number(fromPort, toPort)
	}
	return p.plain(p.next())
}

// plain reads a fact of one step, whose first word was taken.
func (p *parser) plain(word string) bool {
	for op := isTCP; op <= long; op++ {
		if names[op] != word {
			continue
		}
		switch op {
		case fromNet, toNet:
			return p.net(op)
		case fromPort, toPort, long:
			return p.number(op)
		}
		p.put(Step{Op: op})
		return true
	}
	return false
}

// net reads a net, and puts a step of it for each of these, of which one is enough.
func (p *parser) net(ops ...int) bool {
	at, width, cut := strings.Cut(p.next(), "/")
	bits := maxBits
	ok := true
	if cut {
		bits, ok = digits.Number(width, maxBits)
	}
	a, e := addr.Parse(at)
	p.any(Step{Addr: a, Num: bits}, ops)
	return ok && e == api.OK
}

// number likewise reads a number.
func (p *parser) number(ops ...int) bool {
	n, ok := digits.Number(p.next(), maxNum)
	p.any(Step{Num: n}, ops)
	return ok
}

// any puts a step for each of these, of which one is enough.
func (p *parser) any(s Step, ops []int) {
	for i, op := range ops {
		s.Op = op
		p.put(s)
		if i > 0 {
			p.put(Step{Op: either})
		}
	}
}

// Print answers a filter as a text.
func Print(f []Step) string {
	if !Right(f) {
		return ""
	}
	return run(f, text)
}

// text answers a step as a text, by those of what it takes.
func text(s Step, taken []string) string {
	switch s.Op {
	case fromNet, toNet:
		return names[s.Op] + " " + addr.Text(s.Addr) + "/" + strconv.Itoa(s.Num)
	case fromPort, toPort, long:
		return names[s.Op] + " " + strconv.Itoa(s.Num)
	case both:
		return "(" + taken[0] + " and " + taken[1] + ")"
	case either:
		return "(" + taken[0] + " or " + taken[1] + ")"
	case not:
		return "not " + taken[0]
	}
	return names[s.Op]
}
