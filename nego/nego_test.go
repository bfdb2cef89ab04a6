package nego_test

import (
	"bytes"
	"math"
	"math/rand"
	"slices"
	"testing"

	"concierge/api"
	"concierge/nego"
)

// far are numbers that are none of a rule's.
var far = []int{math.MinInt, math.MinInt + 1, -1 << 33, -256, -2, -1, 1 << 33, 1 << 40, math.MaxInt - 1, math.MaxInt}

// mru, magic, pfc and addr are rules as a link's control has them, of each kind one.
var (
	mru   = api.Rule{Type: 1, Size: 2, Kind: api.RuleSpan, Low: 128, High: 1492, Good: 1492}
	magic = api.Rule{Type: 5, Size: 4, Kind: api.RuleNot, Low: 7, Good: 9}
	pfc   = api.Rule{Type: 7, Kind: api.RuleAny}
	addr  = api.Rule{Type: 3, Size: 4, Kind: api.RuleOnly, Good: 0x0a000002, Must: true}
)

// opt is an option of those bytes.
func opt(typ int, data ...byte) api.Option {
	return api.Option{Type: typ, Data: data}
}

// num is an option of that number in size bytes.
func num(typ, size, n int) api.Option {
	o := api.Option{Type: typ}
	for i := size - 1; i >= 0; i-- {
		o.Data = append(o.Data, byte(n>>(8*i)))
	}
	return o
}

// same tells whether both are the same options.
func same(a, b []api.Option) bool {
	if len(a) != len(b) {
		return false
	}
	for i := range a {
		if a[i].Type != b[i].Type || string(a[i].Data) != string(b[i].Data) {
			return false
		}
	}
	return true
}

// copied are the same options on other memory.
func copied(l []api.Option) []api.Option {
	var c []api.Option
	for _, o := range l {
		c = append(c, api.Option{Type: o.Type, Data: bytes.Clone(o.Data)})
	}
	return c
}

// spoil changes all bytes and types of the options, also those that stand in the memory behind them.
func spoil(l []api.Option) {
	l = l[:cap(l)]
	for i := range l {
		d := l[i].Data[:cap(l[i].Data)]
		for k := range d {
			d[k] ^= 0xff
		}
		l[i].Type = ^l[i].Type
	}
}

// numberOf is an option's number, byte by byte.
func numberOf(o api.Option) int {
	n := 0
	for _, b := range o.Data {
		n = n*256 + int(b)
	}
	return n
}

// A second reading of the chapter, in its words.

// takes: "It takes a number".
func takes(r api.Rule, n int) bool {
	return r.Kind == api.RuleAny ||
		r.Kind == api.RuleSpan && r.Low <= n && n <= r.High ||
		r.Kind == api.RuleOnly && n == r.Good ||
		r.Kind == api.RuleNot && n != r.Low
}

// ruleMayBe: "A rule may be".
func ruleMayBe(r api.Rule) bool {
	room := 1
	for range min(max(r.Size, 0), 8) {
		room *= 256
	}
	switch {
	case r.Type < 1, r.Type > 255, r.Size < 0, r.Size > 4, r.Kind < 1, r.Kind > 4:
		return false
	case r.Size == 0 && r.Kind != api.RuleAny:
		return false
	case r.Size == 0 && (r.Low != 0 || r.High != 0 || r.Good != 0):
		return false
	case r.Low < 0, r.Low >= room, r.High < 0, r.High >= room, r.Good < 0, r.Good >= room:
		return false
	case r.Kind == api.RuleSpan && r.Low > r.High:
		return false
	}
	return takes(r, r.Good)
}

// rulesMayBe: "Rules may be".
func rulesMayBe(r []api.Rule) bool {
	if len(r) > 16 {
		return false
	}
	types := map[int]bool{}
	for _, x := range r {
		if !ruleMayBe(x) || types[x.Type] {
			return false
		}
		types[x.Type] = true
	}
	return true
}

// answer is what Answer should tell.
func answer(r []api.Rule, l []api.Option, naks, most int) (int, []api.Option) {
	if !rulesMayBe(r) {
		return 0, nil
	}
	by := map[int]api.Rule{}
	for _, x := range r {
		by[x.Type] = x
	}
	var wrong, out, better []api.Option
	there := map[int]bool{}
	for _, o := range l {
		x, has := by[o.Type]
		if !has || len(o.Data) != x.Size || there[o.Type] {
			wrong = append(wrong, o)
		} else if !takes(x, numberOf(o)) {
			out = append(out, o)
			better = append(better, num(x.Type, x.Size, x.Good))
		}
		there[o.Type] = true
	}
	var lack []api.Option
	for _, x := range r {
		if x.Must && !there[x.Type] {
			lack = append(lack, num(x.Type, x.Size, x.Good))
		}
	}
	if len(wrong) > 0 {
		return api.ConfRej, wrong
	}
	if len(out)+len(lack) == 0 {
		return api.ConfAck, l
	}
	if naks < most {
		return api.ConfNak, append(better, lack...)
	}
	if len(out) > 0 {
		return api.ConfRej, out
	}
	return api.ConfNak, lack
}

// learn is what Learn should tell.
func learn(ask []api.Option, code int, l []api.Option) ([]api.Option, bool) {
	if len(l) == 0 {
		return ask, false
	}
	switch code {
	case api.ConfNak:
		var next []api.Option
		for _, o := range ask {
			for _, x := range l {
				if x.Type == o.Type {
					o.Data = x.Data
					break
				}
			}
			next = append(next, o)
		}
		return next, true
	case api.ConfRej:
		next, from := copied(ask), 0
		for _, x := range l {
			i := from
			for i < len(next) && !same(next[i:i+1], []api.Option{x}) {
				i++
			}
			if i == len(next) {
				return ask, false
			}
			next, from = slices.Delete(next, i, i+1), i
		}
		return next, true
	}
	return ask, false
}

// checks fails where Check tells something else than the second reading.
func checks(t *testing.T, r ...api.Rule) {
	t.Helper()
	want := api.Errno(api.OK)
	if !rulesMayBe(r) {
		want = api.ErrRule
	}
	given := slices.Clone(r)
	if err := nego.Check(r...); err != want {
		t.Errorf("Check of %v: %d, not %d", given, err, want)
	}
	if !slices.Equal(r, given) {
		t.Errorf("Check changed %v to %v", given, r)
	}
}

// answers fails where Answer tells something else than the second reading, or changes what it was given; it is what Answer tells.
func answers(t *testing.T, r []api.Rule, l []api.Option, naks, most int) (int, []api.Option) {
	t.Helper()
	rules, options := slices.Clone(r), copied(l)
	code, told := nego.Answer(r, l, naks, most)
	want, wantTold := answer(rules, options, naks, most)
	if code != want || !same(told, wantTold) {
		t.Errorf("Answer of %v, %v, %d, %d: %d, %v, not %d, %v", rules, options, naks, most, code, told, want, wantTold)
	}
	if !slices.Equal(r, rules) || !same(l, options) {
		t.Errorf("Answer changed %v, %v to %v, %v", rules, options, r, l)
	}
	return code, told
}

// learns fails where Learn tells something else than the second reading, or changes what it was given; it is what Learn tells.
func learns(t *testing.T, ask []api.Option, code int, l []api.Option) ([]api.Option, bool) {
	t.Helper()
	asked, options := copied(ask), copied(l)
	next, learnt := nego.Learn(ask, code, l)
	want, wantTrue := learn(asked, code, options)
	if !same(next, want) || learnt != wantTrue {
		t.Errorf("Learn of %v, %d, %v: %v, %t, not %v, %t", asked, code, options, next, learnt, want, wantTrue)
	}
	if !same(ask, asked) || !same(l, options) {
		t.Errorf("Learn changed %v, %v to %v, %v", asked, options, ask, l)
	}
	return next, learnt
}

// numbers are those at the edges of 0 to 4 bytes, and beside them.
func numbers() []int {
	l := []int{0, 1, 2}
	for size := 1; size <= 4; size++ {
		top := 1 << (8 * size)
		l = append(l, top-2, top-1, top, top+1)
	}
	return append(l, far...)
}

// randomRule is a rule that may be, more often than not.
func randomRule(x *rand.Rand) api.Rule {
	r := api.Rule{Type: 1 + x.Intn(6), Size: x.Intn(4), Kind: api.RuleKind(1 + x.Intn(4)), Must: x.Intn(2) == 0}
	if r.Size == 0 {
		r.Kind = api.RuleAny
		return r
	}
	r.Low, r.Good = x.Intn(4), x.Intn(5)
	r.High = r.Low + x.Intn(3)
	if r.Kind == api.RuleSpan {
		r.Good = r.Low + x.Intn(r.High-r.Low+1)
	}
	return r
}

// randomRules are such ones, that may be more often than not, and of few types.
func randomRules(x *rand.Rand) []api.Rule {
	var l []api.Rule
	for range x.Intn(6) {
		r := randomRule(x)
		if x.Intn(20) == 0 || !slices.ContainsFunc(l, func(o api.Rule) bool { return o.Type == r.Type }) {
			l = append(l, r)
		}
	}
	return l
}

// randomOption is one of few types, most often one that fits one of the rules.
func randomOption(x *rand.Rand, r []api.Rule) api.Option {
	if len(r) > 0 && x.Intn(8) > 0 {
		of := r[x.Intn(len(r))]
		return num(of.Type, of.Size, x.Intn(6))
	}
	return num(x.Intn(8), x.Intn(4), x.Intn(6))
}

// randomOptions are such ones, of each type one more often than not.
func randomOptions(x *rand.Rand, r []api.Rule) []api.Option {
	var l []api.Option
	for range x.Intn(6) {
		o := randomOption(x, r)
		if x.Intn(10) == 0 || !slices.ContainsFunc(l, func(other api.Option) bool { return other.Type == o.Type }) {
			l = append(l, o)
		}
	}
	return l
}

// P15.1

func TestCheckOfGoodRules(t *testing.T) {
	for _, l := range [][]api.Rule{
		nil,
		{},
		{mru},
		{pfc},
		{mru, magic, pfc, addr},
		{addr, pfc, magic, mru},
		{{Type: 1, Kind: api.RuleAny}},
		{{Type: 255, Kind: api.RuleAny, Must: true}},
		{{Type: 1, Size: 1, Kind: api.RuleAny, Low: 255, High: 0, Good: 7}}, // Low and High tell nothing there
		{{Type: 1, Size: 4, Kind: api.RuleAny, Low: 1<<32 - 1, High: 1<<32 - 1, Good: 1<<32 - 1}},
		{{Type: 1, Size: 1, Kind: api.RuleOnly, Low: 9, High: 3, Good: 255}},
		{{Type: 1, Size: 1, Kind: api.RuleNot, Low: 255, High: 3, Good: 0}},
		{{Type: 1, Size: 1, Kind: api.RuleSpan, Low: 5, High: 5, Good: 5}},
		{{Type: 1, Size: 1, Kind: api.RuleSpan, Low: 0, High: 255, Good: 0}},
	} {
		if err := nego.Check(l...); err != api.OK {
			t.Errorf("Check of %v: %d", l, err)
		}
	}
}

func TestCheckOfBadRules(t *testing.T) {
	bad := func(change func(*api.Rule)) {
		t.Helper()
		r := api.Rule{Type: 9, Size: 2, Kind: api.RuleSpan, Low: 10, High: 20, Good: 15}
		change(&r)
		for _, l := range [][]api.Rule{{r}, {mru, r}, {r, mru}, {mru, r, magic}, {r, r}} {
			if err := nego.Check(l...); err != api.ErrRule {
				t.Errorf("Check of %v: %d", l, err)
			}
		}
	}
	for _, n := range append([]int{0, 256, 257}, far...) {
		bad(func(r *api.Rule) { r.Type = n })
	}
	for _, n := range append([]int{5, 6, 8, 64}, far...) {
		bad(func(r *api.Rule) { r.Size = n })
		bad(func(r *api.Rule) { *r = api.Rule{Type: 9, Size: n, Kind: api.RuleAny} })
	}
	for _, n := range append([]int{0, 5, 6, 256}, far...) {
		bad(func(r *api.Rule) { r.Kind = api.RuleKind(n) })
	}
	for _, n := range append([]int{1 << 16, 1<<16 + 1}, far...) {
		bad(func(r *api.Rule) { r.Low = n })
		bad(func(r *api.Rule) { r.High = n })
		bad(func(r *api.Rule) { r.Good = n })
		bad(func(r *api.Rule) { r.Low, r.High, r.Good = n, n, n })
		for _, k := range []api.RuleKind{api.RuleAny, api.RuleOnly, api.RuleNot} {
			bad(func(r *api.Rule) { r.Kind, r.Low = k, n })
			bad(func(r *api.Rule) { r.Kind, r.High = k, n })
			bad(func(r *api.Rule) { r.Kind, r.Good = k, n })
		}
	}
	for _, k := range []api.RuleKind{api.RuleSpan, api.RuleOnly, api.RuleNot} {
		bad(func(r *api.Rule) { *r = api.Rule{Type: 9, Kind: k} })
	}
	for _, n := range append([]int{1, 255}, far...) {
		bad(func(r *api.Rule) { *r = api.Rule{Type: 9, Kind: api.RuleAny, Low: n} })
		bad(func(r *api.Rule) { *r = api.Rule{Type: 9, Kind: api.RuleAny, High: n} })
		bad(func(r *api.Rule) { *r = api.Rule{Type: 9, Kind: api.RuleAny, Good: n} })
	}
	// Good is not taken, or nothing is.
	bad(func(r *api.Rule) { r.Good = 9 })
	bad(func(r *api.Rule) { r.Good = 21 })
	bad(func(r *api.Rule) { r.Low, r.High = 20, 10 })
	bad(func(r *api.Rule) { r.Low, r.High = 15, 14 })
	bad(func(r *api.Rule) { r.Low, r.High = 16, 15 })
	bad(func(r *api.Rule) { r.Kind, r.Low, r.Good = api.RuleNot, 15, 15 })
	bad(func(r *api.Rule) { r.Kind, r.Low, r.Good = api.RuleNot, 0, 0 })
}

func TestCheckAtTheEdges(t *testing.T) {
	edges := numbers()
	for size := -1; size <= 5; size++ {
		for k := api.RuleKind(-1); k <= 5; k++ {
			for _, low := range edges {
				for _, high := range edges {
					for _, good := range edges {
						checks(t, api.Rule{Type: 1, Size: size, Kind: k, Low: low, High: high, Good: good})
					}
				}
			}
		}
	}
	for typ := -2; typ <= 300; typ++ {
		checks(t, api.Rule{Type: typ, Kind: api.RuleAny})
		checks(t, api.Rule{Type: typ, Size: 2, Kind: api.RuleNot, Low: 1, Must: true})
	}
}

func TestCheckOfManyRules(t *testing.T) {
	var l []api.Rule
	for i := range 40 {
		l = append(l, api.Rule{Type: 200 - i, Kind: api.RuleAny})
		want := api.Errno(api.OK)
		if len(l) > 16 {
			want = api.ErrRule
		}
		if err := nego.Check(l...); err != want {
			t.Errorf("Check of %d rules: %d", len(l), err)
		}
	}
}

func TestCheckOfTypesTwice(t *testing.T) {
	var l []api.Rule
	for i := range 16 {
		l = append(l, api.Rule{Type: 10 + i, Size: i % 5, Kind: api.RuleAny})
	}
	for i := range l {
		for k := range l {
			twice := slices.Clone(l)
			twice[i].Type = l[k].Type
			want := api.Errno(api.OK)
			if i != k {
				want = api.ErrRule
			}
			if err := nego.Check(twice...); err != want {
				t.Errorf("Check of one type at %d, %d: %d", i, k, err)
			}
		}
	}
	// Of one type twice, though all else is another's.
	if err := nego.Check(mru, api.Rule{Type: mru.Type, Kind: api.RuleAny}); err != api.ErrRule {
		t.Errorf("Check of one type twice: %d", err)
	}
}

func TestCheckOfRandomRules(t *testing.T) {
	x := rand.New(rand.NewSource(151))
	good := 0
	for range 20000 {
		l := randomRules(x)
		checks(t, l...)
		if rulesMayBe(l) {
			good++
		}
	}
	if good < 5000 || good > 19000 {
		t.Errorf("%d of 20000 may be", good)
	}
}

// P15.2

func TestTheExample(t *testing.T) {
	code, l := nego.Answer([]api.Rule{mru}, []api.Option{num(1, 2, 1500)}, 0, 5)
	if code != api.ConfNak || !same(l, []api.Option{opt(1, 5, 212)}) {
		t.Errorf("%d, %v", code, l)
	}
}

func TestAnswerByHand(t *testing.T) {
	rules := []api.Rule{mru, magic, pfc, addr}
	own := num(3, 4, 0x0a000002)
	for _, c := range []struct {
		name string
		r    []api.Rule
		l    []api.Option
		naks int
		code int
		want []api.Option
	}{
		{"no rules, no options", nil, nil, 0, api.ConfAck, nil},
		{"no rules, an option", nil, []api.Option{opt(1)}, 0, api.ConfRej, []api.Option{opt(1)}},
		{"all good", rules, []api.Option{own, opt(7), num(1, 2, 128), num(5, 4, 8)}, 0, api.ConfAck, []api.Option{own, opt(7), num(1, 2, 128), num(5, 4, 8)}},
		{"all good, no more naks", rules, []api.Option{own}, 5, api.ConfAck, []api.Option{own}},
		{"one lacks", rules, []api.Option{opt(7)}, 4, api.ConfNak, []api.Option{own}},
		{"one lacks, no more naks", rules, []api.Option{opt(7)}, 5, api.ConfNak, []api.Option{own}},
		{"nothing asked, one lacks", rules, nil, 6, api.ConfNak, []api.Option{own}},
		{"not taken and lacking", rules, []api.Option{num(5, 4, 7), num(1, 2, 127)}, 4, api.ConfNak, []api.Option{num(5, 4, 9), num(1, 2, 1492), own}},
		{"the same, no more naks", rules, []api.Option{num(5, 4, 7), opt(7), num(1, 2, 127)}, 5, api.ConfRej, []api.Option{num(5, 4, 7), num(1, 2, 127)}},
		{"not taken, no more naks", rules, []api.Option{num(1, 2, 1493), own}, 5, api.ConfRej, []api.Option{num(1, 2, 1493)}},
		{"of another type", rules, []api.Option{own, opt(9, 1), num(1, 2, 127)}, 0, api.ConfRej, []api.Option{opt(9, 1)}},
		{"of another size", rules, []api.Option{own, opt(1, 5), opt(5, 0, 0, 0, 0, 9), opt(7, 0)}, 0, api.ConfRej, []api.Option{opt(1, 5), opt(5, 0, 0, 0, 0, 9), opt(7, 0)}},
		{"of no bytes", rules, []api.Option{own, opt(1)}, 0, api.ConfRej, []api.Option{opt(1)}},
		{"twice", rules, []api.Option{own, opt(7), own, opt(7), own}, 0, api.ConfRej, []api.Option{own, opt(7), own}},
		{"twice, the first of another size", rules, []api.Option{opt(3, 1), own}, 0, api.ConfRej, []api.Option{opt(3, 1), own}},
		{"twice, one not taken", rules, []api.Option{num(3, 4, 1), own}, 0, api.ConfRej, []api.Option{own}},
		{"twice, of no rule", rules, []api.Option{opt(9), opt(9), own}, 0, api.ConfRej, []api.Option{opt(9), opt(9)}},
		{"types that are none", rules, []api.Option{opt(0), own, opt(-1), opt(256), opt(263), opt(math.MinInt), opt(math.MaxInt, 1)}, 0, api.ConfRej, []api.Option{opt(0), opt(-1), opt(256), opt(263), opt(math.MinInt), opt(math.MaxInt, 1)}},
		{"the address of none", rules, []api.Option{num(3, 4, 0)}, 0, api.ConfNak, []api.Option{own}},
		{"lacking of no bytes", []api.Rule{{Type: 8, Kind: api.RuleAny, Must: true}}, nil, 0, api.ConfNak, []api.Option{opt(8)}},
	} {
		code, l := nego.Answer(c.r, c.l, c.naks, 5)
		if code != c.code || !same(l, c.want) {
			t.Errorf("%s: %d, %v, not %d, %v", c.name, code, l, c.code, c.want)
		}
		answers(t, c.r, c.l, c.naks, 5)
	}
}

func TestAnswerLacksInTheRulesOrder(t *testing.T) {
	var rules []api.Rule
	var want []api.Option
	for i := range 16 {
		size := i % 5
		r := api.Rule{Type: 100 - 3*i, Size: size, Kind: api.RuleAny, Must: i%3 != 0}
		if size > 0 {
			r.Good = 1<<(8*size) - 1 - i
		}
		rules = append(rules, r)
		if r.Must {
			want = append(want, num(r.Type, size, r.Good))
		}
	}
	for _, naks := range []int{0, 1} { // both: none is there that is not taken
		if code, l := answers(t, rules, nil, naks, 1); code != api.ConfNak || !same(l, want) {
			t.Errorf("%d, %v", code, l)
		}
	}
	if code, l := answers(t, rules, want, 0, 1); code != api.ConfAck || !same(l, want) {
		t.Errorf("%d, %v", code, l)
	}
}

func TestAnswerByEachKind(t *testing.T) {
	for size := 1; size <= 4; size++ {
		top := 1<<(8*size) - 1
		for _, low := range []int{0, 1, 3, top - 1, top} {
			for _, high := range []int{0, 1, 3, 4, top - 1, top} {
				for _, good := range []int{0, 1, 2, 3, 4, top - 1, top} {
					for k := api.RuleAny; k <= api.RuleNot; k++ {
						r := []api.Rule{{Type: 4, Size: size, Kind: k, Low: low, High: high, Good: good}}
						for _, n := range []int{0, 1, 2, 3, 4, 5, top / 2, top - 2, top - 1, top} {
							answers(t, r, []api.Option{num(4, size, n)}, 0, 1)
							answers(t, r, []api.Option{num(4, size, n)}, 1, 1)
						}
					}
				}
			}
		}
	}
}

func TestAnswerReadsTheHighestByteFirst(t *testing.T) {
	for size := 1; size <= 4; size++ {
		for at := range size {
			o := api.Option{Type: 2, Data: make([]byte, size)}
			o.Data[at] = 200
			good := 200 << (8 * (size - 1 - at))
			for _, k := range []api.RuleKind{api.RuleOnly, api.RuleSpan} {
				r := api.Rule{Type: 2, Size: size, Kind: k, Low: good, High: good, Good: good, Must: true}
				if code, l := nego.Answer([]api.Rule{r}, []api.Option{o}, 0, 1); code != api.ConfAck || !same(l, []api.Option{o}) {
					t.Errorf("byte %d of %d: %d, %v", at, size, code, l)
				}
				if code, l := nego.Answer([]api.Rule{r}, nil, 0, 1); code != api.ConfNak || !same(l, []api.Option{o}) {
					t.Errorf("byte %d of %d lacks: %d, %v", at, size, code, l)
				}
			}
		}
	}
}

func TestAnswerOfEachSize(t *testing.T) {
	for size := 0; size <= 4; size++ {
		r := []api.Rule{{Type: 4, Size: size, Kind: api.RuleAny}}
		for _, bytes := range []int{0, 1, 2, 3, 4, 5, 8, 253, 256, 260} {
			o := api.Option{Type: 4, Data: make([]byte, bytes)}
			want := api.ConfRej
			if bytes == size {
				want = api.ConfAck
			}
			if code, l := answers(t, r, []api.Option{o}, 0, 1); code != want || !same(l, []api.Option{o}) {
				t.Errorf("%d bytes by size %d: %d, %v", bytes, size, code, l)
			}
		}
	}
}

func TestAnswerCountsNaks(t *testing.T) {
	l := append([]int{0, 1, 4, 5, 6}, far...)
	refused, lacking := []api.Option{num(1, 2, 1), num(3, 4, addr.Good)}, []api.Option{num(1, 2, 128)}
	for _, naks := range l {
		for _, most := range l {
			answers(t, []api.Rule{mru, addr}, refused, naks, most)
			answers(t, []api.Rule{mru, addr}, lacking, naks, most)
			answers(t, []api.Rule{mru, addr}, append(refused[:1:1], opt(9)), naks, most)
			code, told := nego.Answer([]api.Rule{mru}, []api.Option{num(1, 2, 1)}, naks, most)
			if naks < most && (code != api.ConfNak || !same(told, []api.Option{num(1, 2, 1492)})) {
				t.Errorf("%d naks of %d: %d, %v", naks, most, code, told)
			}
			if naks >= most && (code != api.ConfRej || !same(told, []api.Option{num(1, 2, 1)})) {
				t.Errorf("%d naks of %d: %d, %v", naks, most, code, told)
			}
		}
	}
}

func TestAnswerByRulesThatMayNotBe(t *testing.T) {
	many := make([]api.Rule, 17)
	for i := range many {
		many[i] = api.Rule{Type: i + 1, Kind: api.RuleAny}
	}
	for _, r := range [][]api.Rule{
		{{}},
		{mru, {}},
		{mru, magic, mru},
		{{Type: 0, Kind: api.RuleAny}},
		{{Type: 256, Kind: api.RuleAny}},
		{{Type: 1, Size: 5, Kind: api.RuleAny}},
		{{Type: 1, Size: -1, Kind: api.RuleAny}},
		{{Type: 1, Size: 1, Kind: api.RuleNot}},
		{{Type: 1, Size: math.MaxInt, Kind: api.RuleAny}},
		{{Type: 1, Size: math.MinInt, Kind: -1, Low: -1, High: math.MaxInt, Good: math.MinInt}},
		many,
	} {
		for _, l := range [][]api.Option{nil, {opt(1)}, {opt(9)}, {num(1, 2, 1492)}, {num(1, 2, 1)}, {opt(1), opt(1)}} {
			for _, naks := range []int{0, 1} {
				if code, told := answers(t, r, l, naks, 1); code != 0 || len(told) != 0 {
					t.Errorf("Answer of %v, %v: %d, %v", r, l, code, told)
				}
			}
		}
	}
	if code, _ := answers(t, many[:16], []api.Option{opt(1), opt(16)}, 0, 1); code != api.ConfAck {
		t.Errorf("Answer by 16 rules: %d", code)
	}
}

func TestAnswerOfAllShortRows(t *testing.T) {
	one := api.Rule{Type: 1, Size: 1, Kind: api.RuleSpan, Low: 1, High: 2, Good: 2}
	two := api.Rule{Type: 2, Kind: api.RuleAny}
	three := api.Rule{Type: 3, Size: 1, Kind: api.RuleNot, Low: 1, Good: 4}
	all := []api.Option{opt(1, 0), opt(1, 1), opt(1), opt(2), opt(2, 0), opt(3, 1), opt(3, 2), opt(4)}
	var rules [][]api.Rule
	for must := range 8 {
		a, b, c := one, two, three
		a.Must, b.Must, c.Must = must&1 != 0, must&2 != 0, must&4 != 0
		rules = append(rules, []api.Rule{a, b, c}, []api.Rule{c, a}, []api.Rule{b})
	}
	var rows func(l []api.Option)
	rows = func(l []api.Option) {
		for _, r := range rules {
			answers(t, r, l, 0, 1)
			answers(t, r, l, 1, 1)
		}
		if len(l) < 4 {
			for _, o := range all {
				rows(append(l[:len(l):len(l)], o))
			}
		}
	}
	rows(nil)
}

func TestAnswerOfRandomOptions(t *testing.T) {
	x := rand.New(rand.NewSource(152))
	codes := map[int]int{}
	for range 40000 {
		r := randomRules(x)
		code, _ := answers(t, r, randomOptions(x, r), x.Intn(3), x.Intn(3))
		codes[code]++
	}
	for _, code := range []int{0, api.ConfAck, api.ConfNak, api.ConfRej} {
		if codes[code] < 500 {
			t.Errorf("code %d came %d times", code, codes[code])
		}
	}
}

func TestAnswerOfManyOptions(t *testing.T) {
	l := make([]api.Option, 100000)
	for i := range l {
		l[i] = num(1+i%300, 2, 200)
	}
	code, told := nego.Answer([]api.Rule{mru, addr}, l, 0, 1)
	if code != api.ConfRej || !same(told, l[1:]) {
		t.Errorf("%d, %d options", code, len(told))
	}
}

// P15.3

func TestLearnByHand(t *testing.T) {
	a, b, c := num(1, 2, 1492), num(5, 4, 7), opt(7)
	ask := []api.Option{a, b, c}
	for _, x := range []struct {
		name   string
		ask    []api.Option
		code   int
		l      []api.Option
		want   []api.Option
		learnt bool
	}{
		{"a nak", ask, api.ConfNak, []api.Option{num(1, 2, 1000)}, []api.Option{num(1, 2, 1000), b, c}, true},
		{"a nak in another order", ask, api.ConfNak, []api.Option{opt(7, 1), num(1, 2, 1000)}, []api.Option{num(1, 2, 1000), b, opt(7, 1)}, true},
		{"a nak of another size", ask, api.ConfNak, []api.Option{opt(5)}, []api.Option{a, opt(5), c}, true},
		{"a nak, twice one type", ask, api.ConfNak, []api.Option{opt(5, 1), opt(5, 2)}, []api.Option{a, opt(5, 1), c}, true},
		{"a nak of what was asked", ask, api.ConfNak, ask, ask, true},
		{"a nak of what was not asked", ask, api.ConfNak, []api.Option{opt(9, 1)}, ask, true},
		{"a nak of nothing", ask, api.ConfNak, nil, ask, false},
		{"a nak where nothing is asked", nil, api.ConfNak, []api.Option{a}, nil, true},
		{"a nak of nothing where nothing is asked", nil, api.ConfNak, nil, nil, false},
		{"a nak of one type that is asked twice", []api.Option{a, c, a}, api.ConfNak, []api.Option{opt(1, 1)}, []api.Option{opt(1, 1), c, opt(1, 1)}, true},
		{"a reject", ask, api.ConfRej, []api.Option{b}, []api.Option{a, c}, true},
		{"a reject of the ends", ask, api.ConfRej, []api.Option{a, c}, []api.Option{b}, true},
		{"a reject of all", ask, api.ConfRej, ask, nil, true},
		{"a reject of nothing", ask, api.ConfRej, nil, ask, false},
		{"a reject in another order", ask, api.ConfRej, []api.Option{c, a}, ask, false},
		{"a reject with other data", ask, api.ConfRej, []api.Option{num(5, 4, 8)}, ask, false},
		{"a reject with fewer bytes", ask, api.ConfRej, []api.Option{num(5, 3, 7)}, ask, false},
		{"a reject with more bytes", ask, api.ConfRej, []api.Option{opt(7, 0)}, ask, false},
		{"a reject of another type", ask, api.ConfRej, []api.Option{num(6, 4, 7)}, ask, false},
		{"a reject, one not asked", ask, api.ConfRej, []api.Option{a, opt(9)}, ask, false},
		{"a reject, one not asked ahead", ask, api.ConfRej, []api.Option{opt(9), a}, ask, false},
		{"a reject of one twice", ask, api.ConfRej, []api.Option{b, b}, ask, false},
		{"a reject of more than all", ask, api.ConfRej, []api.Option{a, b, c, c}, ask, false},
		{"a reject where nothing is asked", nil, api.ConfRej, []api.Option{a}, nil, false},
		{"a reject of one that is asked twice", []api.Option{a, a}, api.ConfRej, []api.Option{a}, []api.Option{a}, true},
		{"a reject of both", []api.Option{a, b, a}, api.ConfRej, []api.Option{a, a}, []api.Option{b}, true},
		{"types that are none", []api.Option{opt(-1), opt(math.MaxInt, 3), opt(0)}, api.ConfRej, []api.Option{opt(math.MaxInt, 3)}, []api.Option{opt(-1), opt(0)}, true},
		{"a nak of types that are none", []api.Option{opt(-1), opt(math.MaxInt, 3)}, api.ConfNak, []api.Option{opt(math.MaxInt), opt(-1, 1)}, []api.Option{opt(-1, 1), opt(math.MaxInt)}, true},
	} {
		got, ok := nego.Learn(x.ask, x.code, x.l)
		if !same(got, x.want) || ok != x.learnt {
			t.Errorf("%s: %v, %t, not %v, %t", x.name, got, ok, x.want, x.learnt)
		}
		learns(t, x.ask, x.code, x.l)
	}
}

func TestLearnOfOtherCodes(t *testing.T) {
	ask := []api.Option{num(1, 2, 1492), opt(7)}
	codes := append([]int{5, 6, 255, 256, 259, 260, 1<<32 + 3}, far...)
	for code := -20; code <= 20; code++ {
		codes = append(codes, code)
	}
	for _, code := range codes {
		if code == api.ConfNak || code == api.ConfRej {
			continue
		}
		for _, l := range [][]api.Option{nil, {}, {opt(7)}, {num(1, 2, 1)}, ask} {
			if next, ok := nego.Learn(ask, code, l); !same(next, ask) || ok {
				t.Errorf("Learn of code %d, %v: %v, %t", code, l, next, ok)
			}
		}
	}
}

func TestLearnOfAllShortRows(t *testing.T) {
	all := []api.Option{opt(1), opt(1, 1), opt(2), opt(2, 2), opt(3)}
	rows := [][]api.Option{nil}
	for from := 0; from < len(rows); from++ {
		if l := rows[from]; len(l) < 3 {
			for _, o := range all {
				rows = append(rows, append(l[:len(l):len(l)], o))
			}
		}
	}
	for _, ask := range rows {
		for _, l := range rows {
			for _, code := range []int{api.ConfReq, api.ConfAck, api.ConfNak, api.ConfRej, api.TermReq} {
				learns(t, ask, code, l)
			}
		}
	}
}

func TestLearnOfRandomRows(t *testing.T) {
	x := rand.New(rand.NewSource(153))
	some := func(ask []api.Option) []api.Option { // of ask, with none moved
		var l []api.Option
		for _, o := range ask {
			if x.Intn(2) == 0 {
				l = append(l, o)
			}
		}
		return l
	}
	row := func() []api.Option {
		var l []api.Option
		for range x.Intn(8) {
			l = append(l, num(x.Intn(4), x.Intn(2), x.Intn(2)))
		}
		return l
	}
	taught := 0
	for range 30000 {
		ask := row()
		l := some(ask)
		if x.Intn(4) == 0 {
			l = row()
		}
		if _, ok := learns(t, ask, 2+x.Intn(4), l); ok {
			taught++
		}
	}
	if taught < 5000 {
		t.Errorf("%d answers taught something", taught)
	}
}

func TestLearnOfManyOptions(t *testing.T) {
	n := 200000
	ask := make([]api.Option, n)
	for i := range ask {
		ask[i] = num(i, 2, i)
	}
	var l, want, rest []api.Option
	for i := n - 1; i >= 0; i -= 2 {
		l = append(l, num(i, 1, 5))
	}
	for i := range ask {
		if i%2 == 1 {
			want = append(want, num(i, 1, 5))
		} else {
			want, rest = append(want, ask[i]), append(rest, ask[i])
		}
	}
	if next, ok := nego.Learn(ask, api.ConfNak, l); !same(next, want) || !ok {
		t.Errorf("a nak of %d options: %d, %t", len(l), len(next), ok)
	}
	var odd []api.Option
	for i := 1; i < n; i += 2 {
		odd = append(odd, ask[i])
	}
	if next, ok := nego.Learn(ask, api.ConfRej, odd); !same(next, rest) || !ok {
		t.Errorf("a reject of %d options: %d, %t", len(odd), len(next), ok)
	}
}

// P15.4

func TestWhatIsAcknowledgedIsTaken(t *testing.T) {
	x := rand.New(rand.NewSource(154))
	acks := 0
	for range 60000 {
		r := randomRules(x)
		l := randomOptions(x, r)
		code, told := nego.Answer(r, l, x.Intn(2), 1)
		if code != api.ConfAck {
			continue
		}
		acks++
		for _, o := range told {
			if !slices.ContainsFunc(r, func(by api.Rule) bool {
				return by.Type == o.Type && by.Size == len(o.Data) && takes(by, numberOf(o))
			}) {
				t.Errorf("Answer of %v, %v acknowledged %v", r, l, o)
			}
		}
		for _, by := range r {
			if by.Must && !slices.ContainsFunc(told, func(o api.Option) bool { return o.Type == by.Type }) {
				t.Errorf("Answer of %v acknowledged %v without type %d", r, l, by.Type)
			}
		}
	}
	if acks < 2000 {
		t.Errorf("%d were acknowledged", acks)
	}
}

// P15.5

// goOn is what a peer asks for that takes over all that it is told.
func goOn(ask []api.Option, code int, told []api.Option) []api.Option {
	next, _ := nego.Learn(ask, code, told)
	if code == api.ConfNak {
		for _, o := range told {
			if !slices.ContainsFunc(ask, func(asked api.Option) bool { return asked.Type == o.Type }) {
				next = append(next, o)
			}
		}
	}
	return next
}

func TestWhoTakesOverIsAcknowledged(t *testing.T) {
	x := rand.New(rand.NewSource(155))
	behind := [4]int{}
	for range 60000 {
		r := randomRules(x)
		if nego.Check(r...) != api.OK {
			continue
		}
		first := randomOptions(x, r)
		if x.Intn(4) == 0 { // any bytes, often twice
			first = append(first, randomOption(x, nil), randomOption(x, r), randomOption(x, r))
		}
		ask, more := first, 0
		for ; more <= 2; more++ {
			code, told := nego.Answer(r, ask, more, 3)
			if code == api.ConfAck {
				break
			}
			ask = goOn(ask, code, told)
		}
		behind[more]++
		if more > 2 {
			t.Errorf("by %v, %v was not acknowledged, but came to %v", r, first, ask)
		}
	}
	// Else it was not looked at where it is hard.
	if behind[0] < 1000 || behind[1] < 1000 || behind[2] < 1000 {
		t.Errorf("behind so many more questions: %v", behind)
	}
}

// P15.6

func TestBehindARejectThereIsLess(t *testing.T) {
	x := rand.New(rand.NewSource(156))
	rejects := 0
	for range 60000 {
		r := randomRules(x)
		ask := randomOptions(x, r)
		l := randomOptions(x, r)
		if x.Intn(4) > 0 {
			_, l = nego.Answer(r, ask, 1, 1)
		}
		next, ok := nego.Learn(ask, api.ConfRej, l)
		if ok && len(next) != len(ask)-len(l) || !ok && !same(next, ask) {
			t.Errorf("behind a reject of %v (%t), %v is %v", l, ok, ask, next)
		}
		if ok {
			rejects++
			if len(next) >= len(ask) {
				t.Errorf("behind a reject of %v, %v is %v", l, ask, next)
			}
		}
	}
	if rejects < 5000 {
		t.Errorf("%d rejects were true", rejects)
	}
}

// P15.7

func TestAnswerIsNewMemory(t *testing.T) {
	rules := []api.Rule{mru, magic, pfc, addr}
	own := num(3, 4, addr.Good)
	for _, c := range []struct {
		l    []api.Option
		naks int
	}{
		{[]api.Option{own, num(1, 2, 200), opt(7)}, 0},             // acknowledged
		{[]api.Option{num(1, 2, 1), num(5, 4, 7)}, 0},              // helped
		{[]api.Option{num(1, 2, 1), num(5, 4, 7)}, 1},              // refused
		{[]api.Option{opt(7)}, 1},                                  // lacking
		{[]api.Option{own, opt(9, 1, 2), opt(1, 1), own}, 0},       // of no rule
		{[]api.Option{own, {Type: 9, Data: make([]byte, 300)}}, 0}, // long
	} {
		given := copied(c.l)
		code, one := nego.Answer(rules, c.l, c.naks, 1)
		_, other := nego.Answer(rules, c.l, c.naks, 1)
		_, want := answer(rules, given, c.naks, 1)
		spoil(one)
		if !same(c.l, given) || !same(other, want) {
			t.Errorf("code %d shares memory: %v, %v", code, c.l, other)
		}
		spoil(c.l)
		if !same(other, want) {
			t.Errorf("code %d keeps what it was given: %v", code, other)
		}
		apart(t, other)
	}
}

func TestLearnIsNewMemory(t *testing.T) {
	ask := []api.Option{num(1, 2, 200), num(5, 4, 9), opt(7, 1), num(5, 4, 9)}
	for _, c := range []struct {
		code int
		l    []api.Option
	}{
		{api.ConfNak, []api.Option{opt(5, 1, 2, 3), opt(9, 1)}},
		{api.ConfNak, nil},
		{api.ConfRej, []api.Option{num(1, 2, 200)}},
		{api.ConfRej, []api.Option{num(5, 4, 9), num(5, 4, 9)}},
		{api.ConfRej, []api.Option{opt(9, 1)}},
		{api.ConfAck, ask},
	} {
		asked, l := copied(ask), copied(c.l)
		one, _ := nego.Learn(asked, c.code, l)
		other, _ := nego.Learn(asked, c.code, l)
		want, _ := learn(ask, c.code, c.l)
		spoil(one)
		if !same(asked, ask) || !same(l, c.l) || !same(other, want) {
			t.Errorf("code %d shares memory: %v, %v, %v", c.code, asked, l, other)
		}
		spoil(asked)
		spoil(l)
		if !same(other, want) {
			t.Errorf("code %d keeps what it was given: %v", c.code, other)
		}
		apart(t, other)
	}
}

// apart fails where two of the options share memory.
func apart(t *testing.T, l []api.Option) {
	t.Helper()
	for i := range l {
		before := copied(l)
		d := l[i].Data[:cap(l[i].Data)]
		for k := range d {
			d[k] ^= 0xff
		}
		for j := range l {
			if j != i && !same(l[j:j+1], before[j:j+1]) {
				t.Errorf("option %d shares memory with option %d", i, j)
			}
		}
	}
}

func TestRoomBehindIsNotWrittenTo(t *testing.T) {
	// What is handed in has room behind it, which is the caller's.
	l := []api.Option{num(1, 2, 1), num(5, 4, 7), opt(9, 1)}
	rules := []api.Rule{mru, magic, addr, pfc}
	for _, naks := range []int{0, 1} {
		nego.Answer(rules[:3], l[:2], naks, 1)
		nego.Learn(l[:1], api.ConfNak, l[1:2])
		nego.Learn(l[:2], api.ConfRej, l[:1])
		nego.Check(rules[:2]...)
	}
	if !same(l, []api.Option{num(1, 2, 1), num(5, 4, 7), opt(9, 1)}) || !slices.Equal(rules, []api.Rule{mru, magic, addr, pfc}) {
		t.Errorf("%v, %v", l, rules)
	}
}
