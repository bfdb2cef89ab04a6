package nego

import (
	"bytes"
	"slices"

	"concierge/api"
	"concierge/octet"
)

// maxRules is how many rules there are at most, maxType the highest type, maxBytes how many bytes of data an option has at most.
const (
	maxRules = 16
	maxType  = 255
	maxBytes = 4
)

// rule is how an option is taken. Each kind is one of its methods.
type rule api.Rule

// kind is a kind's method: whether the rule takes the number.
type kind func(x rule, n int) bool

// kindOf is the method of that kind; nil, if there is no such one.
func kindOf(k api.RuleKind) kind {
	switch k {
	case api.RuleAny:
		return rule.takesEach
	case api.RuleSpan:
		return rule.takesSpan
	case api.RuleOnly:
		return rule.takesGood
	case api.RuleNot:
		return rule.takesOther
	}
	return nil
}

// takesEach: RuleAny.
func (x rule) takesEach(int) bool {
	return true
}

// takesSpan: RuleSpan.
func (x rule) takesSpan(n int) bool {
	return isIn(n, x.Low, x.High)
}

// takesGood: RuleOnly.
func (x rule) takesGood(n int) bool {
	return n == x.Good
}

// takesOther: RuleNot.
func (x rule) takesOther(n int) bool {
	return n != x.Low
}

// isIn tells whether n is from low to high.
func isIn(n, low, high int) bool {
	return n >= low && n <= high
}

// mayBe tells whether the rule may be.
func (x rule) mayBe() bool {
	takes := kindOf(x.Kind)
	if takes == nil || !isIn(x.Type, 1, maxType) || !isIn(x.Size, 0, maxBytes) {
		return false
	}
	if x.Size == 0 && x.Kind != api.RuleAny {
		return false
	}
	most := 1<<(8*x.Size) - 1
	if !isIn(x.Low, 0, most) || !isIn(x.High, 0, most) || !isIn(x.Good, 0, most) {
		return false
	}
	// A span in which Good is has its Low not above its High.
	return takes(x, x.Good)
}

// takes tells whether the rule takes the option, which fits it.
func (x rule) takes(o api.Option) bool {
	n, _, _ := octet.Take(o.Data, x.Size)
	return kindOf(x.Kind)(x, int(n))
}

// good is the option that the rule takes before all others.
func (x rule) good() api.Option {
	return api.Option{Type: x.Type, Data: octet.Put(uint64(x.Good), x.Size)}
}

// rules are all that a peer's options are held against.
type rules []api.Rule

// mayBe tells whether the rules may be.
func (r rules) mayBe() bool {
	if len(r) > maxRules {
		return false
	}
	for i, x := range r {
		if at, _ := r.of(x.Type); at < i || !rule(x).mayBe() {
			return false
		}
	}
	return true
}

// of is the place of the first rule of that type, and the rule; -1, if there is none.
func (r rules) of(typ int) (int, rule) {
	for i, x := range r {
		if x.Type == typ {
			return i, rule(x)
		}
	}
	return -1, rule{}
}

// misfits are the options that fit no rule, or whose type came ahead of them.
func (r rules) misfits(l []api.Option) []api.Option {
	var came [maxRules]bool
	return walk(l, func(o api.Option) (api.Option, bool) {
		i, x := r.of(o.Type)
		if i < 0 {
			return o, true
		}
		// Also of one that does not fit: what comes behind it is one too many none the less.
		again := came[i]
		came[i] = true
		return o, again || len(o.Data) != x.Size
	})
}

// refused are the options, all of which fit a rule, that their rules do not take.
func (r rules) refused(l []api.Option) []api.Option {
	return walk(l, func(o api.Option) (api.Option, bool) {
		_, x := r.of(o.Type)
		return o, !x.takes(o)
	})
}

// mended are the options as their rules would have them.
func (r rules) mended(l []api.Option) []api.Option {
	return walk(l, func(o api.Option) (api.Option, bool) {
		_, x := r.of(o.Type)
		return x.good(), true
	})
}

// lacking are options of the rules that must be there and are not.
func (r rules) lacking(l []api.Option) []api.Option {
	var lack []api.Option
	for _, x := range r {
		there := slices.ContainsFunc(l, func(o api.Option) bool { return o.Type == x.Type })
		if x.Must && !there {
			lack = append(lack, rule(x).good())
		}
	}
	return lack
}

// walk goes along the options: those that step makes of them, in order, on memory of their own, but where it tells false.
func walk(l []api.Option, step func(api.Option) (api.Option, bool)) []api.Option {
	var all []api.Option
	for _, o := range l {
		if made, stays := step(o); stays {
			all = append(all, api.Option{Type: made.Type, Data: bytes.Clone(made.Data)})
		}
	}
	return all
}

// copies are the options on memory of their own.
func copies(l []api.Option) []api.Option {
	return walk(l, func(o api.Option) (api.Option, bool) { return o, true })
}

// equal tells whether both are the same option.
func equal(a, b api.Option) bool {
	return a.Type == b.Type && bytes.Equal(a.Data, b.Data)
}
