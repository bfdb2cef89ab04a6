package pool_test

import (
	"math"
	"math/rand"
	"slices"
	"testing"

	"concierge/api"
	"concierge/pool"
)

// last is the last address that a range may have.
const last = 1<<32 - 2

// rangeOf is a range.
func rangeOf(base, size int, reserved ...int) api.Range {
	return api.Range{Base: base, Size: size, Reserved: reserved}
}

// rising are the numbers from low to high.
func rising(low, high int) []int {
	var l []int
	for n := low; n <= high; n++ {
		l = append(l, n)
	}
	return l
}

// addresses are those of the range, rising: all but the reserved ones.
func addresses(r api.Range) []int {
	var l []int
	for i := range r.Size {
		if !slices.Contains(r.Reserved, i) {
			l = append(l, r.Base+i)
		}
	}
	return l
}

// made is a pool of the range; it fails where there is none.
func made(t *testing.T, r api.Range) *pool.Pool {
	t.Helper()
	if err := pool.Check(r); err != api.OK {
		t.Fatalf("Check of %d, %d, %v: %d", r.Base, r.Size, r.Reserved, err)
	}
	p, err := pool.New(r)
	if p == nil || err != api.OK {
		t.Fatalf("New of %d, %d, %v: %v, %d", r.Base, r.Size, r.Reserved, p, err)
	}
	return p
}

// full is a pool of the range of which all are leased.
func full(t *testing.T, r api.Range) *pool.Pool {
	t.Helper()
	p := made(t, r)
	for _, a := range addresses(r) {
		wants(t, p, a, api.OK)
	}
	return p
}

// takes fails where Take tells another address.
func takes(t *testing.T, p *pool.Pool, want int) {
	t.Helper()
	if a, err := p.Take(); a != want || err != api.OK {
		t.Errorf("Take: %d, %d, not %d", a, err, want)
	}
}

// lacks fails where Take does not tell that error, and no address.
func lacks(t *testing.T, p *pool.Pool, want api.Errno) {
	t.Helper()
	if a, err := p.Take(); a != 0 || err != want {
		t.Errorf("Take: %d, %d, not 0, %d", a, err, want)
	}
}

// wants fails where Want tells something else.
func wants(t *testing.T, p *pool.Pool, a int, want api.Errno) {
	t.Helper()
	if err := p.Want(a); err != want {
		t.Errorf("Want of %d: %d, not %d", a, err, want)
	}
}

// gives fails where Give tells something else.
func gives(t *testing.T, p *pool.Pool, a int, want api.Errno) {
	t.Helper()
	if err := p.Give(a); err != want {
		t.Errorf("Give of %d: %d, not %d", a, err, want)
	}
}

// stands fails where not just these of the range's addresses are leased, and all others free.
func stands(t *testing.T, p *pool.Pool, r api.Range, leased ...int) {
	t.Helper()
	if got := p.Leased(); !slices.Equal(got, leased) {
		t.Errorf("Leased: %v, not %v", got, leased)
	}
	if got, want := p.Free(), r.Size-len(r.Reserved)-len(leased); got != want {
		t.Errorf("Free: %d, not %d", got, want)
	}
	for a := r.Base - 2; a <= r.Base+min(r.Size, 300)+1; a++ {
		i := a - r.Base
		if got, want := p.Has(a), i >= 0 && i < r.Size && !slices.Contains(r.Reserved, i); got != want {
			t.Errorf("Has of %d: %v", a, got)
		}
	}
}

// strangers are numbers that are none of the range's addresses, or reserved ones of it.
func strangers(r api.Range) []int {
	l := []int{math.MinInt, math.MinInt + 1, math.MinInt + r.Base, math.MinInt + 63, -last, -r.Base, -64, -2, -1, 0, last + 1, last + 2, 1 << 33, math.MaxInt - 1, math.MaxInt}
	l = append(l, r.Base-65, r.Base-64, r.Base-63, r.Base-2, r.Base-1)
	l = append(l, r.Base-1<<32, r.Base+1<<32, r.Base-1<<16, r.Base+1<<16, r.Base+1<<62)
	for n := range 130 {
		l = append(l, r.Base+r.Size+n)
	}
	for _, i := range r.Reserved {
		l = append(l, r.Base+i)
	}
	return l
}

// goodRanges are ranges that may be.
func goodRanges() []api.Range {
	return []api.Range{
		rangeOf(1, 0), rangeOf(1, 1), rangeOf(1, 1, 0), rangeOf(1, api.MaxSize), rangeOf(2, api.MaxSize-1, 0, api.MaxSize-2),
		rangeOf(last, 0), rangeOf(last, 1), rangeOf(last, 1, 0), rangeOf(last-1, 2, 1), rangeOf(last-2, 3, 0, 2),
		rangeOf(last-api.MaxSize+1, api.MaxSize), rangeOf(last-api.MaxSize+1, api.MaxSize, 0, 1, 63, 64, 65535),
		rangeOf(10, 3, 0), rangeOf(10, 3, 1), rangeOf(10, 3, 2), rangeOf(10, 3, 0, 1), rangeOf(10, 3, 0, 2), rangeOf(10, 3, 0, 1, 2),
		rangeOf(7, 63), rangeOf(7, 64), rangeOf(7, 65), rangeOf(7, 63, 62), rangeOf(7, 64, 63), rangeOf(7, 65, 64), rangeOf(7, 65, 63, 64),
		rangeOf(64, 127, 0, 63, 64), rangeOf(63, 128, 63, 64, 127), rangeOf(65, 129, 1, 128), rangeOf(100, 200, rising(0, 130)...),
		rangeOf(0x0a000000, 256, 0, 1, 255), rangeOf(0xc0a80000, 300, rising(0, 299)...), rangeOf(1<<31-100, 200, 99, 100), {Base: 5, Size: 0, Reserved: []int{}},
	}
}

// P12.1

func TestNew(t *testing.T) {
	for _, r := range goodRanges() {
		p := made(t, r)
		stands(t, p, r)
		for n, a := range addresses(r) {
			takes(t, p, a)
			if n%997 == 0 && p.Free() != r.Size-len(r.Reserved)-n-1 {
				t.Errorf("%d, %d, %v: Free %d behind %d", r.Base, r.Size, r.Reserved, p.Free(), a)
			}
		}
		lacks(t, p, api.ErrNoAddr)
		stands(t, p, r, addresses(r)...)
	}
}

// refused fails where Check and New do not tell that the range may not be.
func refused(t *testing.T, r api.Range) {
	t.Helper()
	if err := pool.Check(r); err != api.ErrPool {
		t.Errorf("Check of %d, %d, %v: %d", r.Base, r.Size, r.Reserved, err)
	}
	if p, err := pool.New(r); p != nil || err != api.ErrPool {
		t.Errorf("New of %d, %d, %v: %v, %d", r.Base, r.Size, r.Reserved, p, err)
	}
}

func TestRangesThatMayNotBe(t *testing.T) {
	wrongSizes := []int{math.MinInt, math.MinInt + 1, -1 << 32, -2, -1, api.MaxSize + 1, api.MaxSize + 2, 1 << 32, math.MaxInt - last, math.MaxInt - 1, math.MaxInt}
	for _, base := range []int{math.MinInt, math.MinInt + 1, -last, -1 << 32, -2, -1, 0, last + 1, last + 2, 1 << 32, 1<<32 + 1, math.MaxInt - api.MaxSize, math.MaxInt} {
		for _, size := range append([]int{0, 1, 2, api.MaxSize}, wrongSizes...) {
			refused(t, rangeOf(base, size))
		}
	}
	for _, size := range wrongSizes {
		for _, base := range []int{1, 2, 10, 1 << 16, 1 << 31, last - 1, last} {
			refused(t, rangeOf(base, size))
			refused(t, rangeOf(base, size, 0))
		}
	}
	// The last address lies behind the last one that may be.
	for _, behind := range []int{1, 2, 3, 64, 1000, api.MaxSize - 1} {
		for _, size := range []int{behind + 1, behind + 2, api.MaxSize} {
			refused(t, rangeOf(last-size+1+behind, min(size, api.MaxSize)))
		}
	}
	refused(t, rangeOf(last, 2))
	refused(t, rangeOf(last, 2, 1)) // a reserved address is one of the range's, too
	refused(t, rangeOf(last, 2, 0, 1))
	refused(t, rangeOf(last, api.MaxSize))
	refused(t, rangeOf(last-api.MaxSize+2, api.MaxSize))
}

func TestReservedPlacesThatMayNotBe(t *testing.T) {
	for _, reserved := range [][]int{
		{-1}, {5}, {6}, {math.MinInt}, {math.MaxInt}, {1 << 32}, {-1, 0}, {math.MinInt, 0, 1}, {-2, -1}, {0, 5}, {0, 1, 2, 3, 4, 5}, {4, 5}, {4, math.MaxInt}, {3, -1},
		{0, 0}, {4, 4}, {0, 1, 1}, {1, 1, 2}, {0, 1, 2, 3, 3}, {0, 1, 2, 3, 4, 4},
		{1, 0}, {4, 3}, {4, 0}, {0, 2, 1}, {1, 0, 2}, {0, 3, 2, 4}, {2, 3, 4, 0}, {0, 1, 2, 4, 3},
	} {
		refused(t, rangeOf(10, 5, reserved...))
		refused(t, rangeOf(last-4, 5, reserved...))
	}
	for _, reserved := range [][]int{{0}, {-1}, {1}, {0, 1}} {
		refused(t, rangeOf(10, 0, reserved...))
	}
	refused(t, rangeOf(1, api.MaxSize, api.MaxSize))
	refused(t, rangeOf(1, api.MaxSize, append(rising(0, api.MaxSize-1), api.MaxSize-1)...))
	refused(t, rangeOf(1, 1, make([]int, 1<<20)...))
	if p := made(t, rangeOf(1, api.MaxSize, rising(0, api.MaxSize-1)...)); p.Free() != 0 || p.Leased() != nil {
		t.Errorf("all reserved: Free %d, Leased %v", p.Free(), p.Leased())
	}
}

func TestSmallRangesInTheChaptersWords(t *testing.T) {
	// All rows of at most three places from -1 to 4, and all sizes up to 4, at both ends.
	var rows [][]int
	for n := range 7 * 7 * 7 {
		var row []int
		for _, i := range []int{n / 49, n / 7 % 7, n % 7} {
			if i < 6 {
				row = append(row, i-1)
			}
		}
		rows = append(rows, row)
	}
	for _, base := range []int{-1, 0, 1, 2, last - 3, last - 2, last - 1, last, last + 1} {
		for size := -1; size <= 4; size++ {
			for _, row := range rows {
				may := base >= 1 && base <= last && size >= 0 && base+size-1 <= last
				for k, i := range row {
					may = may && i >= 0 && i < size && (k == 0 || row[k-1] < i)
				}
				r := rangeOf(base, size, row...)
				if !may {
					refused(t, r)
					continue
				}
				stands(t, made(t, r), r)
			}
		}
	}
}

func TestTheRangeIsNeitherChangedNorKept(t *testing.T) {
	reserved := []int{1, 3, 70, -9}
	r := rangeOf(20, 80, reserved[:3]...)
	p := made(t, r)
	if !slices.Equal(reserved, []int{1, 3, 70, -9}) {
		t.Errorf("the places changed: %v", reserved)
	}
	for i := range reserved {
		reserved[i] = i + 10
	}
	r.Reserved = nil
	stands(t, p, rangeOf(20, 80, 1, 3, 70))
	takes(t, p, 20)
	takes(t, p, 22)
	takes(t, p, 24)
	wants(t, p, 90, api.ErrRange)
	wants(t, p, 30, api.OK)
	if !slices.Equal(reserved, []int{10, 11, 12, 13}) {
		t.Errorf("the places changed: %v", reserved)
	}
}

// P12.2

func TestTake(t *testing.T) {
	// The chapter's example, and on.
	r := rangeOf(10, 3, 0)
	p := made(t, r)
	takes(t, p, 11)
	takes(t, p, 12)
	lacks(t, p, api.ErrNoAddr)
	lacks(t, p, api.ErrNoAddr)
	stands(t, p, r, 11, 12)
	gives(t, p, 11, api.OK)
	stands(t, p, r, 12)
	takes(t, p, 11)
	stands(t, p, r, 11, 12)
	gives(t, p, 12, api.OK)
	gives(t, p, 11, api.OK)
	stands(t, p, r)
	takes(t, p, 11)
}

func TestTakeTakesTheLowest(t *testing.T) {
	r := rangeOf(1000, 200, 0, 64, 130)
	p := full(t, r)
	// They are given in any order: the lowest is taken first.
	for _, a := range []int{1199, 1001, 1063, 1065, 1127, 1128, 1129, 1062} {
		gives(t, p, a, api.OK)
	}
	for _, a := range []int{1001, 1062, 1063, 1065} {
		takes(t, p, a)
	}
	gives(t, p, 1002, api.OK)
	takes(t, p, 1002)
	takes(t, p, 1127)
	wants(t, p, 1128, api.OK)
	takes(t, p, 1129)
	takes(t, p, 1199)
	lacks(t, p, api.ErrNoAddr)
	gives(t, p, 1001, api.OK)
	takes(t, p, 1001)
	lacks(t, p, api.ErrNoAddr)
}

func TestTakeGoesByWhatIsWanted(t *testing.T) {
	r := rangeOf(1, 6, 2)
	p := made(t, r)
	wants(t, p, 1, api.OK)
	takes(t, p, 2)
	wants(t, p, 5, api.OK)
	takes(t, p, 4)
	takes(t, p, 6)
	stands(t, p, r, 1, 2, 4, 5, 6)
	lacks(t, p, api.ErrNoAddr)
}

func TestTakeWhereThereIsNone(t *testing.T) {
	for _, r := range []api.Range{rangeOf(9, 0), rangeOf(last, 0), rangeOf(9, 1, 0), rangeOf(9, 65, rising(0, 64)...)} {
		p := made(t, r)
		lacks(t, p, api.ErrNoAddr)
		for _, a := range strangers(r) {
			wants(t, p, a, api.ErrRange)
			gives(t, p, a, api.ErrRange)
		}
		lacks(t, p.Fork(), api.ErrNoAddr)
		stands(t, p, r)
	}
}

func TestWantAndGive(t *testing.T) {
	r := rangeOf(50, 5, 1)
	p := made(t, r)
	gives(t, p, 52, api.ErrFree)
	wants(t, p, 52, api.OK)
	stands(t, p, r, 52)
	wants(t, p, 52, api.ErrTaken)
	wants(t, p, 51, api.ErrRange)
	gives(t, p, 51, api.ErrRange)
	gives(t, p, 50, api.ErrFree)
	stands(t, p, r, 52)
	takes(t, p, 50)
	wants(t, p, 50, api.ErrTaken)
	wants(t, p, 54, api.OK)
	wants(t, p, 53, api.OK)
	stands(t, p, r, 50, 52, 53, 54)
	for _, a := range []int{50, 52, 53, 54} {
		wants(t, p, a, api.ErrTaken)
	}
	gives(t, p, 53, api.OK)
	gives(t, p, 53, api.ErrFree)
	stands(t, p, r, 50, 52, 54)
	wants(t, p, 53, api.OK)
	gives(t, p, 50, api.OK)
	gives(t, p, 54, api.OK)
	stands(t, p, r, 52, 53)
}

func TestWantAndGiveOfEach(t *testing.T) {
	for _, r := range goodRanges() {
		all := addresses(r)
		if len(all) > 1000 {
			all = append(slices.Clone(all[:200]), all[len(all)-200:]...)
		}
		p := made(t, r)
		for n, a := range all {
			gives(t, p, a, api.ErrFree)
			wants(t, p, a, api.OK)
			wants(t, p, a, api.ErrTaken)
			stands(t, p, r, all[:n+1]...)
		}
		for n, a := range all {
			gives(t, p, a, api.OK)
			gives(t, p, a, api.ErrFree)
			if n%50 == 0 {
				stands(t, p, r, all[n+1:]...)
			}
		}
		stands(t, p, r)
	}
}

func TestWantAndGiveOfStrangers(t *testing.T) {
	for _, r := range goodRanges() {
		none, all := made(t, r), full(t, r)
		for _, a := range strangers(r) {
			if i := a - r.Base; i >= 0 && i < r.Size && !slices.Contains(r.Reserved, i) {
				continue // a great range has it
			}
			for _, p := range []*pool.Pool{none, all} {
				wants(t, p, a, api.ErrRange)
				gives(t, p, a, api.ErrRange)
				if p.Has(a) {
					t.Errorf("%d, %d, %v: Has of %d", r.Base, r.Size, r.Reserved, a)
				}
			}
		}
		stands(t, none, r)
		stands(t, all, r, addresses(r)...)
	}
}

// P12.3

func TestHas(t *testing.T) {
	r := rangeOf(30, 6, 0, 3)
	p := made(t, r)
	has := func() {
		t.Helper()
		for a := -100; a < 400; a++ {
			if got := p.Has(a); got != slices.Contains([]int{31, 32, 34, 35}, a) {
				t.Errorf("Has of %d: %v", a, got)
			}
		}
		for _, a := range strangers(r) {
			if p.Has(a) {
				t.Errorf("Has of %d", a)
			}
		}
	}
	has() // be it free or leased
	takes(t, p, 31)
	wants(t, p, 35, api.OK)
	has()
	takes(t, p, 32)
	takes(t, p, 34)
	has()
	gives(t, p, 31, api.OK)
	has()
}

func TestFreeAndLeased(t *testing.T) {
	r := rangeOf(500, 130, 5, 64, 129)
	p := made(t, r)
	var leased []int
	for _, a := range []int{628, 500, 563, 565, 504, 627, 506, 562} {
		wants(t, p, a, api.OK)
		leased = append(leased, a)
		slices.Sort(leased)
		stands(t, p, r, leased...)
	}
	for _, a := range []int{565, 628, 500, 562} {
		gives(t, p, a, api.OK)
		leased = slices.Delete(leased, slices.Index(leased, a), slices.Index(leased, a)+1)
		stands(t, p, r, leased...)
	}
}

func TestFork(t *testing.T) {
	r := rangeOf(70, 70, 1)
	p := made(t, r)
	takes(t, p, 70)
	takes(t, p, 72)
	wants(t, p, 138, api.OK)
	f := p.Fork()
	stands(t, f, r, 70, 72, 138)
	gives(t, f, 72, api.OK)
	wants(t, f, 139, api.OK)
	wants(t, f, 73, api.OK)
	stands(t, f, r, 70, 73, 138, 139)
	stands(t, p, r, 70, 72, 138) // the fork's way is none of its own
	takes(t, p, 73)
	takes(t, p, 74)
	gives(t, p, 138, api.OK)
	stands(t, p, r, 70, 72, 73, 74)
	stands(t, f, r, 70, 73, 138, 139)
	wants(t, f, 71, api.ErrRange)
	takes(t, f, 72)
	takes(t, f, 74)
	g := f.Fork().Fork()
	stands(t, g, r, 70, 72, 73, 74, 138, 139)
	gives(t, g, 74, api.OK)
	stands(t, f, r, 70, 72, 73, 74, 138, 139)
	takes(t, g, 74)
}

func TestForkOfNothingAndOfAll(t *testing.T) {
	for _, r := range []api.Range{rangeOf(4, 0), rangeOf(4, 2, 0, 1), rangeOf(4, 65, 64)} {
		none, all := made(t, r).Fork(), full(t, r).Fork()
		if none == nil || all == nil {
			t.Fatalf("%d, %d, %v: no fork", r.Base, r.Size, r.Reserved)
		}
		stands(t, none, r)
		stands(t, all, r, addresses(r)...)
		lacks(t, all, api.ErrNoAddr)
		wants(t, none, 3, api.ErrRange)
	}
}

func TestAPoolThatNobodyMade(t *testing.T) {
	for _, p := range []*pool.Pool{nil, {}, new(pool.Pool)} {
		lacks(t, p, api.ErrNil)
		for _, a := range []int{math.MinInt, -1, 0, 1, 2, 63, 64, 1 << 31, last, last + 1, math.MaxInt} {
			wants(t, p, a, api.ErrNil)
			gives(t, p, a, api.ErrNil)
			if p.Has(a) {
				t.Errorf("%v: Has of %d", p, a)
			}
		}
		lacks(t, p, api.ErrNil)
		if p.Free() != 0 || p.Leased() != nil || p.Fork() != nil {
			t.Errorf("%v: it tells something", p)
		}
	}
}

func TestWhatIsToldIsOnesOwn(t *testing.T) {
	r := rangeOf(5, 8)
	p := made(t, r)
	for _, a := range []int{6, 9, 12} {
		wants(t, p, a, api.OK)
	}
	one, other := p.Leased(), p.Leased()
	for i := range one {
		one[i] = -7
	}
	_ = append(one, -8)
	if !slices.Equal(other, []int{6, 9, 12}) {
		t.Errorf("two answers share memory: %v", other)
	}
	stands(t, p, r, 6, 9, 12)
	gives(t, p, 9, api.OK)
	wants(t, p, 10, api.OK)
	if !slices.Equal(other, []int{6, 9, 12}) {
		t.Errorf("what was told changed: %v", other)
	}
}

// held is a pool in the words of the chapter: its addresses, each with whether it is leased.
type held struct {
	r      api.Range
	leased map[int]bool
}

// newHeld is one at its beginning.
func newHeld(r api.Range) held {
	h := held{r, map[int]bool{}}
	for _, a := range addresses(r) {
		h.leased[a] = false
	}
	return h
}

// fork is another one like it.
func (h held) fork() held {
	other := held{h.r, map[int]bool{}}
	for a, leased := range h.leased {
		other.leased[a] = leased
	}
	return other
}

// take is Take.
func (h held) take() (int, api.Errno) {
	for _, a := range addresses(h.r) {
		if !h.leased[a] {
			h.leased[a] = true
			return a, api.OK
		}
	}
	return 0, api.ErrNoAddr
}

// set is Want and Give: it makes the address a leased one, or a free one; the error tells that it was that.
func (h held) set(a int, leased bool, was api.Errno) api.Errno {
	now, there := h.leased[a]
	if !there {
		return api.ErrRange
	}
	if now == leased {
		return was
	}
	h.leased[a] = leased
	return api.OK
}

// row are those that are leased, rising.
func (h held) row() []int {
	var l []int
	for _, a := range addresses(h.r) {
		if h.leased[a] {
			l = append(l, a)
		}
	}
	return l
}

// does makes a call of the pool and of the other one: Want of an address, Give of it, or Take; it fails where they tell unlike things.
func does(t *testing.T, p *pool.Pool, h held, call, a int) {
	t.Helper()
	switch call {
	case 0:
		want, err := h.take()
		if got, e := p.Take(); got != want || e != err {
			t.Errorf("%v: Take: %d, %d, not %d, %d", h, got, e, want, err)
		}
	case 1:
		wants(t, p, a, h.set(a, true, api.ErrTaken))
	default:
		gives(t, p, a, h.set(a, false, api.ErrFree))
	}
}

// allWays goes on from there in all ways of so many calls, each on a fork of its own.
func allWays(t *testing.T, p *pool.Pool, h held, calls int) {
	stands(t, p, h.r, h.row()...)
	if calls == 0 || t.Failed() {
		return
	}
	next := func(call, a int) {
		f, g := p.Fork(), h.fork()
		does(t, f, g, call, a)
		allWays(t, f, g, calls-1)
	}
	next(0, 0)
	for a := h.r.Base - 1; a <= h.r.Base+h.r.Size; a++ {
		next(1, a)
		next(2, a)
	}
}

func TestAllWays(t *testing.T) {
	for _, r := range []api.Range{rangeOf(1, 0), rangeOf(1, 1), rangeOf(last, 1), rangeOf(8, 2), rangeOf(8, 2, 0), rangeOf(8, 3, 1), rangeOf(last-1, 2, 0, 1)} {
		allWays(t, made(t, r), newHeld(r), 4)
	}
}

// anyRange is a range that may be, of at most so many addresses.
func anyRange(rnd *rand.Rand, size int) api.Range {
	r := rangeOf(1+rnd.Intn(1<<rnd.Intn(32)), rnd.Intn(size+1))
	r.Base = min(r.Base, last-size+1)
	odds := 1 + rnd.Intn(8)
	for i := range r.Size {
		if rnd.Intn(odds) == 1 {
			r.Reserved = append(r.Reserved, i)
		}
	}
	return r
}

func TestInTheChaptersWords(t *testing.T) {
	rnd := rand.New(rand.NewSource(121))
	for run := range 200 {
		r := anyRange(rnd, 1+rnd.Intn(200))
		p, h := made(t, r), newHeld(r)
		bias := rnd.Intn(3)
		for range 200 {
			call := rnd.Intn(3)
			if rnd.Intn(4) == 0 {
				call = bias // some are nearly full, some nearly free
			}
			a := r.Base - 2 + rnd.Intn(r.Size+4)
			if l := p.Leased(); call == 2 && len(l) > 0 && rnd.Intn(2) == 0 {
				a = l[rnd.Intn(len(l))]
			}
			if rnd.Intn(20) == 0 {
				l := strangers(r)
				a = l[rnd.Intn(len(l))]
			}
			does(t, p, h, call, a)
			stands(t, p, r, h.row()...)
			if rnd.Intn(20) == 0 {
				p = p.Fork() // which goes on as p would
			}
		}
		if t.Failed() {
			t.Fatalf("run %d: %v", run, r)
		}
	}
}

func TestAllAddressesInTurn(t *testing.T) {
	for _, r := range []api.Range{rangeOf(1, api.MaxSize), rangeOf(last-api.MaxSize+1, api.MaxSize, 0, 4095, 4096, 65535)} {
		p := full(t, r)
		all := addresses(r)
		for n := len(all) - 1; n >= 0; n -= 3 {
			gives(t, p, all[n], api.OK)
		}
		for n := (len(all) - 1) % 3; n < len(all); n += 3 {
			takes(t, p, all[n])
		}
		lacks(t, p, api.ErrNoAddr)
		stands(t, p, r, all...)
	}
}

// P12.4

func TestParts(t *testing.T) {
	rnd := rand.New(rand.NewSource(122))
	for range 100 {
		r := anyRange(rnd, 1+rnd.Intn(150))
		p := made(t, r)
		for range 60 {
			switch a := r.Base - 1 + rnd.Intn(r.Size+2); rnd.Intn(3) {
			case 0:
				p.Take()
			case 1:
				p.Want(a)
			default:
				p.Give(a)
			}
			parts(t, p, r)
		}
	}
}

// parts fails where free, leased and reserved addresses are not those of the range, each once.
func parts(t *testing.T, p *pool.Pool, r api.Range) {
	t.Helper()
	all := p.Leased()
	f := p.Fork()
	for range p.Free() {
		a, _ := f.Take()
		all = append(all, a)
	}
	lacks(t, f, api.ErrNoAddr)
	for _, i := range r.Reserved {
		all = append(all, r.Base+i)
	}
	slices.Sort(all)
	if !slices.Equal(all, rising(r.Base, r.Base+r.Size-1)) {
		t.Fatalf("%v: the parts are %v", r, all)
	}
}

// P12.5

func TestEachOnce(t *testing.T) {
	rnd := rand.New(rand.NewSource(123))
	for range 200 {
		r := anyRange(rnd, 1+rnd.Intn(100))
		p := made(t, r)
		holds := map[int]bool{}
		told := func(a int) {
			if holds[a] {
				t.Fatalf("%v: %d is leased twice", r, a)
			}
			holds[a] = true
		}
		for range 300 {
			a := r.Base + rnd.Intn(r.Size+1)
			switch rnd.Intn(3) {
			case 0:
				if a, err := p.Take(); err == api.OK {
					told(a)
				}
			case 1:
				if p.Want(a) == api.OK {
					told(a)
				}
			default:
				if had := holds[a]; (p.Give(a) == api.OK) != had {
					t.Fatalf("%v: Give of %d, held: %v", r, a, had)
				}
				delete(holds, a)
			}
		}
	}
}

// P12.6

// goesTo makes just these the pool's leased ones: the others are given and these wanted, in any order.
func goesTo(t *testing.T, rnd *rand.Rand, p *pool.Pool, r api.Range, leased []int) {
	t.Helper()
	all := addresses(r)
	rnd.Shuffle(len(all), func(i, j int) { all[i], all[j] = all[j], all[i] })
	for range rnd.Intn(len(all) + 1) {
		p.Take()
	}
	for _, a := range all[:rnd.Intn(len(all)+1)] {
		p.Want(a)
	}
	for _, a := range all {
		if slices.Contains(leased, a) {
			p.Want(a)
		} else {
			p.Give(a)
		}
	}
	stands(t, p, r, leased...)
}

func TestNoOrder(t *testing.T) {
	rnd := rand.New(rand.NewSource(124))
	for range 100 {
		r := anyRange(rnd, 1+rnd.Intn(140))
		var leased []int
		for _, a := range addresses(r) {
			if rnd.Intn(2) == 0 {
				leased = append(leased, a)
			}
		}
		p := made(t, r)
		goesTo(t, rnd, p, r, leased)
		for range 4 {
			// Whatever way led there, they go on alike.
			one, other := p.Fork(), made(t, r)
			goesTo(t, rnd, other, r, leased)
			for one.Free() > 0 {
				a, err := one.Take()
				if b, e := other.Take(); a != b || err != e {
					t.Fatalf("%v, leased %v: Take: %d, %d, and %d, %d", r, leased, a, err, b, e)
				}
			}
			lacks(t, other, api.ErrNoAddr)
		}
	}
}
