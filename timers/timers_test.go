package timers_test

import (
	"cmp"
	"math"
	"math/rand"
	"slices"
	"testing"

	"concierge/api"
	"concierge/timers"
)

// wrongKeys are numbers of no key, wrongTicks those of no tick.
var (
	wrongKeys  = []int{math.MinInt, math.MinInt + 1, -api.MaxTick, -1 << 32, -2, -1, api.MaxTick + 1, api.MaxTick + 2, 1 << 41, 1 << 62, math.MaxInt - 1, math.MaxInt}
	wrongTicks = append([]int{0}, wrongKeys...)
)

// goodKeys are keys, goodTicks ticks, at both ends and between.
var (
	goodTicks = []int{1, 2, 3, 63, 64, 65, 1<<31 - 1, 1 << 31, 1 << 32, 1<<32 + 1, api.MaxTick - 1, api.MaxTick}
	goodKeys  = append([]int{0}, goodTicks...)
)

// due is a key with its tick.
func due(key, tick int) api.Due {
	return api.Due{Key: key, Tick: tick}
}

// inOrder sorts by ticks, and by keys, where these are alike.
func inOrder(l []api.Due) {
	slices.SortFunc(l, func(a, b api.Due) int {
		if a.Tick != b.Tick {
			return cmp.Compare(a.Tick, b.Tick)
		}
		return cmp.Compare(a.Key, b.Key)
	})
}

// of is timers of those, set in that order.
func of(t *testing.T, l ...api.Due) *timers.Timers {
	t.Helper()
	tm := timers.New()
	for _, d := range l {
		sets(t, tm, d.Key, d.Tick, api.OK)
	}
	return tm
}

// sets fails where Set tells something else.
func sets(t *testing.T, tm *timers.Timers, key, tick int, want api.Errno) {
	t.Helper()
	if err := tm.Set(key, tick); err != want {
		t.Errorf("Set of %d, %d: %d, not %d", key, tick, err, want)
	}
}

// stops fails where Stop tells something else.
func stops(t *testing.T, tm *timers.Timers, key int, want bool) {
	t.Helper()
	if there := tm.Stop(key); there != want {
		t.Errorf("Stop of %d: %v", key, there)
	}
}

// dues fails where Due at the tick tells others, or some that are there still.
func dues(t *testing.T, tm *timers.Timers, tick int, want ...api.Due) {
	t.Helper()
	if l := tm.Due(tick); !slices.Equal(l, want) {
		t.Errorf("Due at %d: %v, not %v", tick, l, want)
	}
	if l := tm.Due(tick); l != nil {
		t.Errorf("Due at %d once more: %v", tick, l)
	}
}

// stands fails where not just these timers, in order, are there.
func stands(t *testing.T, tm *timers.Timers, want ...api.Due) {
	t.Helper()
	if tm == nil {
		t.Fatal("no timers")
	}
	first, some := api.Due{}, len(want) > 0
	if some {
		first = want[0]
	}
	for range 2 { // what is asked changes nothing
		if l := tm.All(); !slices.Equal(l, want) {
			t.Errorf("All: %v, not %v", l, want)
		}
		if n := tm.Len(); n != len(want) {
			t.Errorf("Len: %d, not %d", n, len(want))
		}
		if d, there := tm.Next(); d != first || there != some {
			t.Errorf("Next: %v, %v, not %v, %v", d, there, first, some)
		}
	}
}

// lasts fails where one like tm does not tell just these, in order, each once, as the ticks go on.
func lasts(t *testing.T, tm *timers.Timers, want ...api.Due) {
	t.Helper()
	stands(t, tm, want...)
	whole, single := tm.Fork(), tm.Fork()
	dues(t, whole, api.MaxTick, want...)
	stands(t, whole)
	for i, d := range want {
		if i > 0 && want[i-1].Tick == d.Tick {
			continue
		}
		dues(t, single, d.Tick-1)
		n := i
		for n < len(want) && want[n].Tick == d.Tick {
			n++
		}
		dues(t, single, d.Tick, want[i:n]...)
		stands(t, single, want[n:]...)
	}
	stands(t, tm, want...)
}

// P13.1

func TestTheExample(t *testing.T) {
	tm := of(t, due(1, 5), due(2, 5), due(1, 7))
	stands(t, tm, due(2, 5), due(1, 7))
	dues(t, tm, 6, due(2, 5))
	stands(t, tm, due(1, 7))
}

func TestNew(t *testing.T) {
	one, other := timers.New(), timers.New()
	lasts(t, one)
	dues(t, one, api.MaxTick)
	stops(t, one, 0, false)
	sets(t, one, 0, 1, api.OK)
	lasts(t, one, due(0, 1))
	lasts(t, other) // they share nothing
}

func TestSetOfEach(t *testing.T) {
	for _, key := range goodKeys {
		for _, tick := range goodTicks {
			tm := of(t, due(key, tick))
			lasts(t, tm, due(key, tick))
			dues(t, tm, tick-1)
			dues(t, tm, tick, due(key, tick))
			stands(t, tm)
			sets(t, tm, key, tick, api.OK) // it may come again
			lasts(t, tm, due(key, tick))
		}
	}
}

func TestSetOfAll(t *testing.T) {
	// All keys at unlike ticks, and at one.
	tm, same := timers.New(), timers.New()
	var want, alike []api.Due
	for i, key := range goodKeys {
		tick := goodTicks[(i*5+3)%len(goodTicks)]
		sets(t, tm, key, tick, api.OK)
		sets(t, same, goodKeys[len(goodKeys)-1-i], 9, api.OK)
		want, alike = append(want, due(key, tick)), append(alike, due(key, 9))
	}
	inOrder(want)
	lasts(t, tm, want...)
	lasts(t, same, alike...)
}

func TestSetAnew(t *testing.T) {
	tm := of(t, due(1, 10), due(2, 20), due(3, 30))
	sets(t, tm, 3, 5, api.OK) // ahead of all
	lasts(t, tm, due(3, 5), due(1, 10), due(2, 20))
	sets(t, tm, 1, 40, api.OK) // behind all
	lasts(t, tm, due(3, 5), due(2, 20), due(1, 40))
	sets(t, tm, 2, 20, api.OK) // as it was
	lasts(t, tm, due(3, 5), due(2, 20), due(1, 40))
	sets(t, tm, 3, 40, api.OK) // beside another
	lasts(t, tm, due(2, 20), due(1, 40), due(3, 40))
	sets(t, tm, 2, 40, api.OK)
	lasts(t, tm, due(1, 40), due(2, 40), due(3, 40))
	sets(t, tm, 2, 1, api.OK)
	sets(t, tm, 2, api.MaxTick, api.OK)
	sets(t, tm, 2, 39, api.OK)
	lasts(t, tm, due(2, 39), due(1, 40), due(3, 40))
	dues(t, tm, 38) // none of those that it had
	stops(t, tm, 2, true)
	lasts(t, tm, due(1, 40), due(3, 40))
}

func TestSetAnewOfEachToEach(t *testing.T) {
	// Each of nine timers goes to each tick: ahead, between and behind the others.
	for key := range 9 {
		for tick := 1; tick <= 21; tick++ {
			var l, want []api.Due
			for k := range 9 {
				l = append(l, due(k, 2+(k*4)%9*2))
			}
			tm := of(t, l...)
			sets(t, tm, key, tick, api.OK)
			want = slices.Clone(l)
			want[key].Tick = tick
			inOrder(want)
			lasts(t, tm, want...)
			stops(t, tm, key, true)
			want = slices.DeleteFunc(want, func(d api.Due) bool { return d.Key == key })
			lasts(t, tm, want...)
		}
	}
}

func TestSetOfWhatMayNotBe(t *testing.T) {
	l := []api.Due{due(5, 1), due(0, 3), due(6, 3), due(api.MaxTick, api.MaxTick)}
	tm := of(t, l...)
	refuses := func(key, tick int) {
		t.Helper()
		sets(t, tm, key, tick, api.ErrTimer)
		stands(t, tm, l...)
		none := timers.New()
		sets(t, none, key, tick, api.ErrTimer)
		stands(t, none)
	}
	for _, key := range wrongKeys {
		for _, tick := range append(slices.Clone(goodTicks), wrongTicks...) {
			refuses(key, tick)
		}
	}
	// A key that has a timer keeps it.
	for _, key := range append([]int{5, 6}, goodKeys...) {
		for _, tick := range wrongTicks {
			refuses(key, tick)
		}
	}
	lasts(t, tm, l...)
}

func TestStop(t *testing.T) {
	tm := of(t, due(4, 1), due(2, 2), due(9, 2), due(0, 8))
	stops(t, tm, 1, false)
	stops(t, tm, 8, false) // a tick is no key
	stands(t, tm, due(4, 1), due(2, 2), due(9, 2), due(0, 8))
	stops(t, tm, 9, true)
	stops(t, tm, 9, false)
	lasts(t, tm, due(4, 1), due(2, 2), due(0, 8))
	stops(t, tm, 4, true)
	lasts(t, tm, due(2, 2), due(0, 8))
	stops(t, tm, 0, true)
	lasts(t, tm, due(2, 2))
	sets(t, tm, 9, 1, api.OK)
	lasts(t, tm, due(9, 1), due(2, 2))
	stops(t, tm, 2, true)
	stops(t, tm, 9, true)
	stands(t, tm)
	for _, key := range append([]int{2, 4, 9}, wrongKeys...) {
		stops(t, tm, key, false)
	}
	sets(t, tm, 9, 6, api.OK)
	lasts(t, tm, due(9, 6))
}

func TestStopOfWhatIsNoKey(t *testing.T) {
	var l []api.Due
	for _, key := range goodKeys {
		l = append(l, due(key, 7))
	}
	tm := of(t, l...)
	for _, key := range wrongKeys {
		stops(t, tm, key, false)
	}
	lasts(t, tm, l...)
}

func TestStopOfWhatWasDue(t *testing.T) {
	tm := of(t, due(1, 1), due(2, 2), due(3, 3))
	dues(t, tm, 2, due(1, 1), due(2, 2))
	stops(t, tm, 1, false)
	stops(t, tm, 2, false)
	lasts(t, tm, due(3, 3))
	sets(t, tm, 1, 9, api.OK)
	stops(t, tm, 1, true)
	stops(t, tm, 3, true)
	stands(t, tm)
}

func TestStopOfEach(t *testing.T) {
	// Of rows that were set in any order, each place's is stopped.
	rnd := rand.New(rand.NewSource(131))
	for n := range 20 {
		for key := range n {
			var l []api.Due
			for k := range n {
				l = append(l, due(k, 1+rnd.Intn(n)))
			}
			rnd.Shuffle(n, func(i, j int) { l[i], l[j] = l[j], l[i] })
			tm := of(t, l...)
			stops(t, tm, key, true)
			l = slices.DeleteFunc(l, func(d api.Due) bool { return d.Key == key })
			inOrder(l)
			lasts(t, tm, l...)
		}
	}
}

func TestTimersThatNobodyMade(t *testing.T) {
	for _, tm := range []*timers.Timers{nil, {}, new(timers.Timers)} {
		for _, key := range append(slices.Clone(wrongKeys), goodKeys...) {
			for _, tick := range append(slices.Clone(wrongTicks), goodTicks...) {
				sets(t, tm, key, tick, api.ErrNil)
			}
			stops(t, tm, key, false)
			if l := tm.Due(key); l != nil {
				t.Errorf("%v: Due at %d: %v", tm, key, l)
			}
		}
		if d, there := tm.Next(); d != (api.Due{}) || there {
			t.Errorf("%v: Next: %v, %v", tm, d, there)
		}
		if tm.All() != nil || tm.Len() != 0 || tm.Fork() != nil {
			t.Errorf("%v: it tells something", tm)
		}
	}
}

// P13.2

func TestNextAllAndLen(t *testing.T) {
	tm := timers.New()
	stands(t, tm)
	sets(t, tm, 7, 9, api.OK)
	stands(t, tm, due(7, 9))
	sets(t, tm, 8, 9, api.OK)
	stands(t, tm, due(7, 9), due(8, 9))
	sets(t, tm, 6, 9, api.OK)
	stands(t, tm, due(6, 9), due(7, 9), due(8, 9))
	sets(t, tm, 9, 8, api.OK) // ticks count ahead of keys
	stands(t, tm, due(9, 8), due(6, 9), due(7, 9), due(8, 9))
	sets(t, tm, 0, 10, api.OK)
	stands(t, tm, due(9, 8), due(6, 9), due(7, 9), due(8, 9), due(0, 10))
	sets(t, tm, 0, 9, api.OK)
	stands(t, tm, due(9, 8), due(0, 9), due(6, 9), due(7, 9), due(8, 9))
	stops(t, tm, 9, true)
	stands(t, tm, due(0, 9), due(6, 9), due(7, 9), due(8, 9))
	dues(t, tm, 9, due(0, 9), due(6, 9), due(7, 9), due(8, 9))
	stands(t, tm)
}

func TestOrderOfGreatNumbers(t *testing.T) {
	// None of these is cut to fewer bits.
	l := []api.Due{due(3, 1), due(api.MaxTick, 1), due(2, 1<<31), due(1<<32, 1<<31), due(1<<32+1, 1<<31), due(1, 1<<32), due(0, 1<<32+1), due(5, api.MaxTick-1), due(4, api.MaxTick)}
	back := slices.Clone(l)
	slices.Reverse(back)
	lasts(t, of(t, l...), l...)
	lasts(t, of(t, back...), l...)
}

// P13.3

func TestDue(t *testing.T) {
	l := []api.Due{due(9, 1), due(0, 3), due(4, 3), due(8, 3), due(1, 4), due(2, 10)}
	for tick := -2; tick <= 12; tick++ {
		tm := of(t, l...)
		n := 0
		for n < len(l) && l[n].Tick <= tick {
			n++
		}
		dues(t, tm, tick, l[:n]...)
		lasts(t, tm, l[n:]...)
		for _, d := range l[:n] {
			stops(t, tm, d.Key, false)
		}
	}
}

func TestDueAtAnyTick(t *testing.T) {
	l := []api.Due{due(0, 1), due(api.MaxTick, api.MaxTick)}
	for _, tick := range []int{math.MinInt, math.MinInt + 1, -api.MaxTick, -1 << 32, -1, 0} {
		tm := of(t, l...)
		dues(t, tm, tick)
		stands(t, tm, l...)
	}
	for _, tick := range []int{1, 2, 1 << 32, 1<<32 + 1, api.MaxTick - 1} {
		tm := of(t, l...)
		dues(t, tm, tick, l[0])
		stands(t, tm, l[1])
	}
	for _, tick := range []int{api.MaxTick, api.MaxTick + 1, 1 << 62, math.MaxInt - 1, math.MaxInt} {
		tm := of(t, l...)
		dues(t, tm, tick, l...)
		stands(t, tm)
	}
}

func TestDueOfOneThatIsSetBehindIt(t *testing.T) {
	// Ticks may fall: timers hang on no tick that was asked before.
	tm := of(t, due(1, 50))
	dues(t, tm, 100, due(1, 50))
	sets(t, tm, 1, 20, api.OK)
	sets(t, tm, 2, 10, api.OK)
	dues(t, tm, 9)
	dues(t, tm, 10, due(2, 10))
	dues(t, tm, 100, due(1, 20))
	stands(t, tm)
}

// P13.4

func TestFork(t *testing.T) {
	tm := of(t, due(1, 5), due(2, 3), due(3, 8), due(4, 8))
	f := tm.Fork()
	lasts(t, f, due(2, 3), due(1, 5), due(3, 8), due(4, 8))
	sets(t, f, 3, 1, api.OK)
	stops(t, f, 1, true)
	sets(t, f, 9, 6, api.OK)
	lasts(t, f, due(3, 1), due(2, 3), due(9, 6), due(4, 8))
	lasts(t, tm, due(2, 3), due(1, 5), due(3, 8), due(4, 8)) // the fork's way is none of its own
	dues(t, tm, 5, due(2, 3), due(1, 5))
	sets(t, tm, 4, 2, api.OK)
	sets(t, tm, 7, 7, api.OK)
	lasts(t, tm, due(4, 2), due(7, 7), due(3, 8))
	lasts(t, f, due(3, 1), due(2, 3), due(9, 6), due(4, 8))
	g := f.Fork().Fork()
	dues(t, g, api.MaxTick, due(3, 1), due(2, 3), due(9, 6), due(4, 8))
	stands(t, g)
	lasts(t, f, due(3, 1), due(2, 3), due(9, 6), due(4, 8))
	sets(t, g, 1, 1, api.OK)
	lasts(t, g, due(1, 1))
}

func TestForkOfNone(t *testing.T) {
	tm := timers.New()
	f := tm.Fork()
	lasts(t, f)
	sets(t, f, 0, 4, api.OK)
	lasts(t, f, due(0, 4))
	lasts(t, tm)
	sets(t, tm, 1, 3, api.OK)
	lasts(t, f, due(0, 4))
	dues(t, f, 4, due(0, 4))
	g := f.Fork() // of one that has none any more
	sets(t, g, 5, 5, api.OK)
	lasts(t, g, due(5, 5))
	lasts(t, f)
}

func TestForksGrowApart(t *testing.T) {
	// Each is set on where the other one is, too: they share no memory.
	var l []api.Due
	for k := range 100 {
		l = append(l, due(k, 100))
		tm := of(t, l...)
		f := tm.Fork()
		sets(t, tm, 200, 100, api.OK)
		sets(t, f, 300, 100, api.OK)
		stops(t, tm, 300, false)
		stops(t, f, 200, false)
		stands(t, tm, append(slices.Clone(l), due(200, 100))...)
		stands(t, f, append(slices.Clone(l), due(300, 100))...)
		stops(t, f, 0, true)
		stands(t, tm, append(slices.Clone(l), due(200, 100))...)
		sets(t, tm, k, 1, api.OK)
		stands(t, f, append(slices.Clone(l[1:]), due(300, 100))...)
	}
}

func TestWhatIsToldIsOnesOwn(t *testing.T) {
	want := []api.Due{due(3, 1), due(1, 2), due(2, 2)}
	tm := of(t, want...)
	spoil := func(l []api.Due) {
		for i := range l {
			l[i] = due(-7, -7)
		}
		_ = append(l, due(-8, -8))
	}
	one, other := tm.All(), tm.All()
	spoil(one)
	if !slices.Equal(other, want) {
		t.Errorf("two answers share memory: %v", other)
	}
	lasts(t, tm, want...)
	gone, kept := tm.Due(1), tm.All()
	spoil(gone)
	lasts(t, tm, want[1:]...)
	sets(t, tm, 1, 9, api.OK)
	sets(t, tm, 0, 1, api.OK)
	tm.Due(api.MaxTick)
	if !slices.Equal(kept, want[1:]) || !slices.Equal(other, want) {
		t.Errorf("what was told changed: %v, %v", kept, other)
	}
}

func TestACopyByAssignmentDoesNotPanic(t *testing.T) {
	// Nothing is promised of such a copy, but that no call panics.
	tm := timers.New()
	for k := range 20 {
		sets(t, tm, k, 20-k, api.OK)
	}
	c := *tm
	use := func(tm *timers.Timers) {
		for k := range 30 {
			tm.Stop((k * 7) % 30)
			tm.Set(k, 1+k%5)
			tm.Due(k % 4)
			tm.Next()
		}
		tm.All()
		tm.Len()
		tm.Fork().Due(9)
		tm.Due(9)
	}
	use(tm)
	use(&c)
	use(tm)
	c = timers.Timers{}
	use(tm)
	sets(t, &c, 1, 1, api.ErrNil)
}

// P13.5

// row is timers in the words of the chapter: each in a row that is sorted anew each time.
type row struct{ l []api.Due }

// set is Set.
func (r *row) set(key, tick int) api.Errno {
	if key < 0 || key > api.MaxTick || tick < 1 || tick > api.MaxTick {
		return api.ErrTimer
	}
	r.stop(key)
	r.l = append(r.l, due(key, tick))
	inOrder(r.l)
	return api.OK
}

// stop is Stop.
func (r *row) stop(key int) bool {
	n := len(r.l)
	r.l = slices.DeleteFunc(r.l, func(d api.Due) bool { return d.Key == key })
	return len(r.l) < n
}

// due is Due.
func (r *row) due(tick int) []api.Due {
	var l []api.Due
	for len(r.l) > 0 && r.l[0].Tick <= tick {
		l = append(l, r.l[0])
		r.l = slices.Delete(r.l, 0, 1)
	}
	return l
}

// fork is another one like it.
func (r *row) fork() *row {
	return &row{slices.Clone(r.l)}
}

// does makes a call of the timers and of the row: Set, Stop of a key, or Due at a tick.
func does(t *testing.T, tm *timers.Timers, r *row, call, key, tick int) {
	t.Helper()
	switch call {
	case 0:
		sets(t, tm, key, tick, r.set(key, tick))
	case 1:
		stops(t, tm, key, r.stop(key))
	default:
		dues(t, tm, tick, r.due(tick)...)
	}
}

// allWays goes on from there in all ways of so many calls, each on a fork of its own.
func allWays(t *testing.T, tm *timers.Timers, r *row, calls int) {
	stands(t, tm, r.l...)
	if calls == 0 || t.Failed() {
		return
	}
	next := func(call, key, tick int) {
		f, g := tm.Fork(), r.fork()
		does(t, f, g, call, key, tick)
		allWays(t, f, g, calls-1)
	}
	for key := range 3 {
		next(1, key, 0)
		for tick := 1; tick <= 2; tick++ {
			next(0, key, tick)
		}
	}
	for tick := range 3 {
		next(2, 0, tick)
	}
}

func TestAllWays(t *testing.T) {
	allWays(t, timers.New(), &row{}, 4)
	two := []api.Due{due(0, 1), due(3, 1), due(1, 2), due(4, 2)}
	allWays(t, of(t, two...), &row{slices.Clone(two)}, 3)
}

func TestAllOrdersOfSetting(t *testing.T) {
	// Whatever order seven timers are set in, what is told is the same.
	want := []api.Due{due(5, 1), due(1, 2), due(3, 2), due(4, 2), due(0, 3), due(6, 3), due(2, 4)}
	var walk func(tm *timers.Timers, left []api.Due)
	walk = func(tm *timers.Timers, left []api.Due) {
		if len(left) == 0 {
			stands(t, tm, want...)
			dues(t, tm, 2, want[:4]...)
			dues(t, tm, 4, want[4:]...)
		}
		for i, d := range left {
			f := tm.Fork()
			sets(t, f, d.Key, d.Tick, api.OK)
			walk(f, slices.Delete(slices.Clone(left), i, i+1))
		}
	}
	walk(timers.New(), want)
}

func TestAsARow(t *testing.T) {
	rnd := rand.New(rand.NewSource(132))
	for run := range 300 {
		tm, r := timers.New(), &row{}
		keys, ticks := 1+rnd.Intn(60), 1+rnd.Intn(60)
		far := rnd.Intn(3) * (api.MaxTick - 60) / 2 // at one end, between, at the other
		bias := rnd.Intn(4)
		for range 300 {
			call := min(rnd.Intn(4), rnd.Intn(4))
			if rnd.Intn(3) == 0 {
				call = min(bias, 2) // some have many, some few
			}
			key, tick := far+rnd.Intn(keys), far+rnd.Intn(ticks)
			if rnd.Intn(30) == 0 {
				key, tick = wrongKeys[rnd.Intn(len(wrongKeys))], goodTicks[rnd.Intn(len(goodTicks))]
			}
			if call == 2 && len(r.l) > 0 {
				tick = r.l[min(rnd.Intn(len(r.l)), rnd.Intn(len(r.l)))].Tick - rnd.Intn(2)
			}
			does(t, tm, r, call, key, tick)
			stands(t, tm, r.l...)
			if rnd.Intn(20) == 0 {
				tm = tm.Fork() // which goes on as tm would
			}
		}
		lasts(t, tm, r.l...)
		if t.Failed() {
			t.Fatalf("run %d", run)
		}
	}
}

func TestMany(t *testing.T) {
	// So many that a row that is sorted anew each time would not come to an end.
	const n = 200000
	rnd := rand.New(rand.NewSource(133))
	tm := timers.New()
	l := make([]api.Due, n)
	for round := range 3 {
		for k := range l {
			l[k] = due(k*7, 1+rnd.Intn(n))
			if err := tm.Set(k*7, l[k].Tick); err != api.OK {
				t.Fatalf("round %d: Set of %v: %d", round, l[k], err)
			}
			if round == 0 && tm.Len() != k+1 || round > 0 && tm.Len() != n {
				t.Fatalf("round %d: Len %d behind %v", round, tm.Len(), l[k])
			}
		}
	}
	var left []api.Due
	for k, d := range l {
		if k%3 == 0 {
			stops(t, tm, d.Key, true)
		} else {
			left = append(left, d)
		}
	}
	inOrder(left)
	if !slices.Equal(tm.All(), left) {
		t.Error("All tells others")
	}
	var told []api.Due
	for tick := range n + 1 {
		told = append(told, tm.Due(tick)...)
	}
	if !slices.Equal(told, left) || tm.Len() != 0 {
		t.Errorf("Due told %d of %d, and %d are left", len(told), len(left), tm.Len())
	}
}

// P13.6

func TestNoneMissed(t *testing.T) {
	rnd := rand.New(rand.NewSource(134))
	for run := range 200 {
		tm := timers.New()
		at := map[int]int{} // each key's tick, while it was neither told nor stopped
		begin := []int{0, 1 << 31, api.MaxTick - 150}[run%3]
		for now := begin; now < begin+150; now++ {
			told := tm.Due(now)
			for _, d := range told {
				if d.Tick != now || at[d.Key] != now {
					t.Fatalf("run %d: at %d %v is told, set for %d", run, now, d, at[d.Key])
				}
				delete(at, d.Key)
			}
			for key, tick := range at {
				if tick <= now {
					t.Fatalf("run %d: at %d that of %d, set for %d, is missed", run, now, key, tick)
				}
			}
			for range rnd.Intn(4) {
				key, tick := rnd.Intn(40), now+1+rnd.Intn(1+rnd.Intn(50))
				if _, there := at[key]; rnd.Intn(4) == 0 {
					stops(t, tm, key, there)
					delete(at, key)
				} else if tick <= api.MaxTick {
					sets(t, tm, key, tick, api.OK)
					at[key] = tick
				}
			}
			if tm.Len() != len(at) {
				t.Fatalf("run %d: at %d Len %d, not %d", run, now, tm.Len(), len(at))
			}
		}
	}
}
