package ids_test

import (
	"math"
	"math/rand"
	"slices"
	"testing"

	"concierge/api"
	"concierge/ids"
)

// wrongTicks are numbers of no tick, and such as no number rests.
var wrongTicks = []int{math.MinInt, -api.MaxTick, -1 << 32, -2, -1, api.MaxTick + 1, api.MaxTick + 2, 1 << 62, math.MaxInt}

// span is settings.
type span struct{ low, high, quiet int }

// made is the numbers of those settings; it fails where there are none.
func made(t *testing.T, low, high, quiet int) *ids.Alloc {
	t.Helper()
	a, err := ids.New(low, high, quiet)
	if a == nil || err != api.OK {
		t.Fatalf("New of %d, %d, %d: %v, %d", low, high, quiet, a, err)
	}
	return a
}

// takes fails where Take at the tick tells another number.
func takes(t *testing.T, a *ids.Alloc, tick, want int) {
	t.Helper()
	if id, err := a.Take(tick); id != want || err != api.OK {
		t.Errorf("Take at %d: %d, %d, not %d", tick, id, err, want)
	}
}

// lacks fails where Take at the tick does not tell that error, and no number.
func lacks(t *testing.T, a *ids.Alloc, tick int, want api.Errno) {
	t.Helper()
	if id, err := a.Take(tick); id != 0 || err != want {
		t.Errorf("Take at %d: %d, %d, not 0, %d", tick, id, err, want)
	}
}

// gives fails where Give tells something else.
func gives(t *testing.T, a *ids.Alloc, id, tick int, want api.Errno) {
	t.Helper()
	if err := a.Give(id, tick); err != want {
		t.Errorf("Give of %d at %d: %d, not %d", id, tick, err, want)
	}
}

// has fails where other numbers are taken.
func has(t *testing.T, a *ids.Alloc, want ...int) {
	t.Helper()
	if got := a.Taken(); !slices.Equal(got, want) {
		t.Errorf("Taken: %v, not %v", got, want)
	}
}

// rests fails where others rest, or in another order.
func rests(t *testing.T, a *ids.Alloc, want ...api.Resting) {
	t.Helper()
	if got := a.Resting(); !slices.Equal(got, want) {
		t.Errorf("Resting: %v, not %v", got, want)
	}
}

// free fails where not so many would be free as of the tick.
func free(t *testing.T, a *ids.Alloc, tick, want int) {
	t.Helper()
	if got := a.Free(tick); got != want {
		t.Errorf("Free as of %d: %d, not %d", tick, got, want)
	}
}

// full is numbers of which all are taken.
func full(t *testing.T, low, high, quiet int) *ids.Alloc {
	t.Helper()
	a := made(t, low, high, quiet)
	for id := low; id <= high; id++ {
		takes(t, a, 0, id)
	}
	return a
}

// P11.1

func TestNew(t *testing.T) {
	for _, s := range []span{
		{1, 1, 0}, {1, 2, 5}, {7, 19, 1}, {api.MaxID, api.MaxID, 3}, {api.MaxID - 1, api.MaxID, api.MaxTick - 1}, {500, 500, api.MaxTick},
		{api.MinID, api.MaxID, 0}, {api.MinID, api.MaxID, api.MaxTick}, {2, api.MaxID - 1, 1 << 32},
	} {
		a := made(t, s.low, s.high, s.quiet)
		n := s.high - s.low + 1
		if a.Len() != n {
			t.Errorf("%v: Len %d", s, a.Len())
		}
		free(t, a, 0, n)
		free(t, a, api.MaxTick, n)
		has(t, a)
		rests(t, a)
		for id := s.low; id <= s.high; id++ {
			takes(t, a, 0, id)
		}
		lacks(t, a, 0, api.ErrNoID)
		lacks(t, a, api.MaxTick, api.ErrNoID)
		free(t, a, api.MaxTick, 0)
	}
}

func TestNewOfWrongSettings(t *testing.T) {
	refused := func(low, high, quiet int) {
		t.Helper()
		if a, err := ids.New(low, high, quiet); a != nil || err != api.ErrIDs {
			t.Errorf("New of %d, %d, %d: %v, %d", low, high, quiet, a, err)
		}
	}
	for _, quiet := range append([]int{0, 1, api.MaxTick}, wrongTicks...) {
		for _, low := range []int{math.MinInt, math.MinInt + 1, -1 << 32, -2, -1, 0} {
			for _, high := range []int{low, 0, 1, 2, api.MaxID, api.MaxID + 1, math.MaxInt} {
				refused(low, high, quiet)
			}
		}
		for _, high := range []int{api.MaxID + 1, api.MaxID + 2, 65536, 1 << 32, math.MaxInt} {
			for _, low := range []int{math.MinInt, 0, 1, 2, api.MaxID, api.MaxID + 1, high, math.MaxInt} {
				refused(low, high, quiet)
			}
		}
		for _, low := range []int{1, 2, 100, api.MaxID, api.MaxID + 1, math.MaxInt} {
			for _, high := range []int{math.MinInt, -1, 0, low - 2, low - 1} {
				refused(low, high, quiet)
			}
		}
	}
	for _, quiet := range wrongTicks {
		refused(1, 1, quiet)
		refused(1, api.MaxID, quiet)
		refused(api.MaxID, api.MaxID, quiet)
	}
}

// P11.2

func TestTakeAndGive(t *testing.T) {
	// The chapter's example, and on.
	a := made(t, 1, 2, 5)
	takes(t, a, 0, 1)
	takes(t, a, 0, 2)
	gives(t, a, 1, 10, api.OK)
	rests(t, a, api.Resting{ID: 1, Ready: 15})
	lacks(t, a, 14, api.ErrNoID)
	rests(t, a, api.Resting{ID: 1, Ready: 15})
	takes(t, a, 15, 1)
	rests(t, a)
	has(t, a, 1, 2)
	lacks(t, a, 15, api.ErrNoID)
	gives(t, a, 2, 15, api.OK)
	gives(t, a, 1, 15, api.OK)
	rests(t, a, api.Resting{ID: 2, Ready: 20}, api.Resting{ID: 1, Ready: 20})
	lacks(t, a, 19, api.ErrNoID)
	takes(t, a, 20, 2)
	takes(t, a, 20, 1)
	lacks(t, a, api.MaxTick, api.ErrNoID)
}

func TestTakeTakesTheOthersFirst(t *testing.T) {
	a := made(t, 3, 6, 2)
	takes(t, a, 0, 3)
	takes(t, a, 0, 4)
	gives(t, a, 4, 0, api.OK)
	gives(t, a, 3, 1, api.OK)
	takes(t, a, 9, 5) // 4 and 3 are roused, behind 5 and 6
	rests(t, a)
	free(t, a, 0, 3)
	takes(t, a, 0, 6)
	takes(t, a, 0, 4)
	takes(t, a, 0, 3)
	lacks(t, a, 9, api.ErrNoID)
}

func TestTakeRousesByTheTick(t *testing.T) {
	a := full(t, 1, 4, 10)
	for id := 1; id <= 4; id++ {
		gives(t, a, id, id, api.OK) // ready at 11, 12, 13, 14
	}
	lacks(t, a, 0, api.ErrNoID)
	lacks(t, a, 10, api.ErrNoID)
	takes(t, a, 12, 1)
	rests(t, a, api.Resting{ID: 3, Ready: 13}, api.Resting{ID: 4, Ready: 14})
	// 2 was roused at 12, so it is free at any tick.
	takes(t, a, 0, 2)
	lacks(t, a, 12, api.ErrNoID)
	takes(t, a, 13, 3)
	takes(t, a, 14, 4)
	rests(t, a)
}

func TestTakeWhereTicksFell(t *testing.T) {
	a := full(t, 1, 5, 10)
	gives(t, a, 1, 100, api.OK)
	gives(t, a, 2, 5, api.OK)
	gives(t, a, 3, 60, api.OK)
	gives(t, a, 4, 5, api.OK)
	gives(t, a, 5, 0, api.OK)
	rests(t, a, api.Resting{ID: 1, Ready: 110}, api.Resting{ID: 2, Ready: 15}, api.Resting{ID: 3, Ready: 70}, api.Resting{ID: 4, Ready: 15}, api.Resting{ID: 5, Ready: 10})
	free(t, a, 9, 0)
	free(t, a, 10, 1)
	free(t, a, 15, 3)
	free(t, a, 70, 4)
	free(t, a, 110, 5)
	lacks(t, a, 9, api.ErrNoID)
	f := a.Fork()
	takes(t, f, 15, 2) // in the order in which they rest, not in that of their ticks
	rests(t, f, api.Resting{ID: 1, Ready: 110}, api.Resting{ID: 3, Ready: 70})
	takes(t, f, 0, 4)
	takes(t, f, 0, 5)
	lacks(t, f, 69, api.ErrNoID)
	takes(t, f, 70, 3)
	rests(t, f, api.Resting{ID: 1, Ready: 110})
	lacks(t, f, 109, api.ErrNoID)
	takes(t, f, 110, 1)
	takes(t, a, 10, 5)
	rests(t, a, api.Resting{ID: 1, Ready: 110}, api.Resting{ID: 2, Ready: 15}, api.Resting{ID: 3, Ready: 70}, api.Resting{ID: 4, Ready: 15})
	for _, id := range []int{1, 2, 3, 4} {
		takes(t, a, api.MaxTick, id)
	}
}

func TestTakeWhereTicksFellAndAllWereTakenAgain(t *testing.T) {
	a := full(t, 1, 3, 10)
	gives(t, a, 1, 9, api.OK)
	gives(t, a, 2, 4, api.OK)
	takes(t, a, 14, 2)
	gives(t, a, 2, 30, api.OK)
	gives(t, a, 3, 31, api.OK)
	rests(t, a, api.Resting{ID: 1, Ready: 19}, api.Resting{ID: 2, Ready: 40}, api.Resting{ID: 3, Ready: 41})
	takes(t, a, 41, 1)
	takes(t, a, 41, 2)
	takes(t, a, 41, 3)
	gives(t, a, 3, 50, api.OK)
	gives(t, a, 1, 50, api.OK)
	gives(t, a, 2, 49, api.OK)
	lacks(t, a, 58, api.ErrNoID)
	takes(t, a, 59, 2)
	takes(t, a, 60, 3)
	takes(t, a, 60, 1)
}

func TestQuietOfNoTicks(t *testing.T) {
	a := full(t, 1, 2, 0)
	gives(t, a, 2, 7, api.OK)
	rests(t, a, api.Resting{ID: 2, Ready: 7})
	lacks(t, a, 6, api.ErrNoID)
	takes(t, a, 7, 2)
	gives(t, a, 1, 0, api.OK)
	takes(t, a, 0, 1)
}

func TestGiveRousesNobody(t *testing.T) {
	a := full(t, 1, 3, 2)
	gives(t, a, 1, 0, api.OK)
	gives(t, a, 2, 50, api.OK)
	rests(t, a, api.Resting{ID: 1, Ready: 2}, api.Resting{ID: 2, Ready: 52})
	free(t, a, 1, 0)
	lacks(t, a, 1, api.ErrNoID)
	free(t, a, 50, 1)
	rests(t, a, api.Resting{ID: 1, Ready: 2}, api.Resting{ID: 2, Ready: 52})
}

func TestTicksAtTheirLimits(t *testing.T) {
	a := full(t, 1, 2, api.MaxTick)
	gives(t, a, 2, 0, api.OK)
	gives(t, a, 1, api.MaxTick, api.OK)
	rests(t, a, api.Resting{ID: 2, Ready: api.MaxTick}, api.Resting{ID: 1, Ready: 2 * api.MaxTick})
	lacks(t, a, api.MaxTick-1, api.ErrNoID)
	free(t, a, api.MaxTick-1, 0)
	free(t, a, api.MaxTick, 1)
	takes(t, a, api.MaxTick, 2)
	lacks(t, a, api.MaxTick, api.ErrNoID) // 1 rests for ever
	b := full(t, 1, 1, 1)
	gives(t, b, 1, api.MaxTick, api.OK)
	lacks(t, b, api.MaxTick, api.ErrNoID)
	rests(t, b, api.Resting{ID: 1, Ready: api.MaxTick + 1})
	c := full(t, 1, 1, 0)
	gives(t, c, 1, api.MaxTick, api.OK)
	takes(t, c, api.MaxTick, 1)
}

func TestWrongTicks(t *testing.T) {
	a := full(t, 1, 3, 4)
	gives(t, a, 2, 6, api.OK)
	stays := func() {
		t.Helper()
		has(t, a, 1, 3)
		rests(t, a, api.Resting{ID: 2, Ready: 10})
		free(t, a, 9, 0)
		free(t, a, 10, 1)
	}
	for _, tick := range wrongTicks {
		// The tick is asked ahead of all else: whether one is free, whether that one is taken.
		lacks(t, a, tick, api.ErrArg)
		for _, id := range []int{1, 2, 3, 0, 4, -1, math.MinInt, math.MaxInt} {
			gives(t, a, id, tick, api.ErrArg)
		}
		free(t, a, tick, 0)
		stays()
	}
	b := made(t, 1, 3, 4)
	for _, tick := range wrongTicks {
		lacks(t, b, tick, api.ErrArg)
		free(t, b, tick, 0)
	}
	takes(t, b, 0, 1)
}

func TestGiveOfWhatIsNotTaken(t *testing.T) {
	a := made(t, 10, 13, 3)
	takes(t, a, 0, 10)
	takes(t, a, 0, 11)
	takes(t, a, 0, 12)
	gives(t, a, 11, 0, api.OK)
	gives(t, a, 12, 9, api.OK)
	for _, tick := range []int{0, 3, 100, api.MaxTick} {
		// 11 and 12 rest, 13 was never taken; the others are none of the numbers.
		for _, id := range []int{11, 12, 13, 9, 14, 0, 1, -1, -10, api.MaxID, api.MaxID + 1, 10 + 1<<16, 10 + 1<<32, math.MinInt, math.MinInt + 10, math.MaxInt} {
			gives(t, a, id, tick, api.ErrFree)
		}
	}
	has(t, a, 10)
	rests(t, a, api.Resting{ID: 11, Ready: 3}, api.Resting{ID: 12, Ready: 12})
	takes(t, a, 3, 13) // 11 is roused
	gives(t, a, 11, 3, api.ErrFree)
	rests(t, a, api.Resting{ID: 12, Ready: 12})
	takes(t, a, 3, 11)
	gives(t, a, 11, 3, api.OK)
	gives(t, a, 11, 3, api.ErrFree) // once given, it is not taken
	rests(t, a, api.Resting{ID: 12, Ready: 12}, api.Resting{ID: 11, Ready: 6})
}

// P11.3

func TestFreeChangesNothing(t *testing.T) {
	a := full(t, 1, 4, 5)
	gives(t, a, 3, 10, api.OK)
	gives(t, a, 1, 12, api.OK)
	for _, c := range []struct{ tick, n int }{{api.MaxTick, 2}, {17, 2}, {16, 1}, {15, 1}, {14, 0}, {0, 0}, {17, 2}, {0, 0}} {
		free(t, a, c.tick, c.n)
		rests(t, a, api.Resting{ID: 3, Ready: 15}, api.Resting{ID: 1, Ready: 17})
	}
	lacks(t, a, 14, api.ErrNoID)
	takes(t, a, 15, 3)
	free(t, a, 15, 0)
	free(t, a, 17, 1)
}

func TestFreeOfSome(t *testing.T) {
	a := made(t, 1, 5, 5)
	for n := range 5 {
		free(t, a, n, 5-n)
		takes(t, a, n, n+1)
	}
	gives(t, a, 4, 20, api.OK)
	takes(t, a, 25, 4)
	gives(t, a, 2, 30, api.OK)
	gives(t, a, 5, 30, api.OK)
	gives(t, a, 1, 40, api.OK)
	takes(t, a, 35, 2) // 5 is roused
	free(t, a, 0, 1)
	free(t, a, 44, 1)
	free(t, a, 45, 2)
}

func TestTakenRises(t *testing.T) {
	a := full(t, 100, 105, 1)
	for _, id := range []int{103, 100, 105, 104} {
		gives(t, a, id, 0, api.OK)
	}
	has(t, a, 101, 102)
	takes(t, a, 1, 103)
	has(t, a, 101, 102, 103)
	takes(t, a, 1, 100)
	has(t, a, 100, 101, 102, 103)
	takes(t, a, 1, 105)
	has(t, a, 100, 101, 102, 103, 105)
	takes(t, a, 1, 104)
	has(t, a, 100, 101, 102, 103, 104, 105)
}

func TestHas(t *testing.T) {
	a := made(t, 20, 24, 3)
	takes(t, a, 0, 20)
	takes(t, a, 0, 21)
	takes(t, a, 0, 22)
	gives(t, a, 21, 0, api.OK)
	for id := -5; id < 50; id++ {
		if got := a.Has(id); got != (id == 20 || id == 22) {
			t.Errorf("Has of %d: %v", id, got)
		}
	}
	for _, id := range []int{math.MinInt, math.MinInt + 20, -20, 20 + 1<<16, 20 + 1<<32, 20 - 1<<32, math.MaxInt, api.MaxID, api.MaxID + 1} {
		if a.Has(id) {
			t.Errorf("Has of %d", id)
		}
	}
	b := full(t, api.MinID, api.MaxID, 0)
	for _, id := range []int{api.MinID, 2, api.MaxID - 1, api.MaxID} {
		if !b.Has(id) {
			t.Errorf("Has of %d: false", id)
		}
	}
	if b.Has(api.MinID-1) || b.Has(api.MaxID+1) {
		t.Error("Has of what is none of the numbers")
	}
}

func TestLenIsThatOfAll(t *testing.T) {
	a := made(t, 4, 6, 1)
	for tick := range 10 {
		if a.Len() != 3 {
			t.Errorf("tick %d: Len %d", tick, a.Len())
		}
		if id, err := a.Take(tick); err == api.OK && tick%3 != 0 {
			gives(t, a, id, tick, api.OK)
		}
	}
}

func TestFork(t *testing.T) {
	a := made(t, 1, 5, 10)
	takes(t, a, 0, 1)
	takes(t, a, 0, 2)
	takes(t, a, 0, 3)
	gives(t, a, 2, 1, api.OK)
	gives(t, a, 1, 2, api.OK)
	f := a.Fork()
	alike := func(l *ids.Alloc) {
		t.Helper()
		has(t, l, 3)
		rests(t, l, api.Resting{ID: 2, Ready: 11}, api.Resting{ID: 1, Ready: 12})
		free(t, l, 0, 2)
		if l.Len() != 5 {
			t.Errorf("Len %d", l.Len())
		}
	}
	alike(f)
	takes(t, f, 11, 4)
	takes(t, f, 11, 5)
	takes(t, f, 11, 2)
	gives(t, f, 3, 11, api.OK)
	gives(t, f, 5, 11, api.OK)
	has(t, f, 2, 4)
	rests(t, f, api.Resting{ID: 1, Ready: 12}, api.Resting{ID: 3, Ready: 21}, api.Resting{ID: 5, Ready: 21})
	alike(a) // the fork's way is none of its own
	takes(t, a, 12, 4)
	gives(t, a, 4, 12, api.OK)
	takes(t, a, 12, 5)
	takes(t, a, 12, 2)
	takes(t, a, 12, 1)
	lacks(t, a, 12, api.ErrNoID)
	has(t, a, 1, 2, 3, 5)
	rests(t, a, api.Resting{ID: 4, Ready: 22})
	has(t, f, 2, 4)
	rests(t, f, api.Resting{ID: 1, Ready: 12}, api.Resting{ID: 3, Ready: 21}, api.Resting{ID: 5, Ready: 21})
	takes(t, f, 12, 1)
}

func TestForkWhereTicksFell(t *testing.T) {
	a := full(t, 1, 2, 5)
	gives(t, a, 2, 90, api.OK)
	gives(t, a, 1, 3, api.OK)
	f := a.Fork()
	takes(t, f, 8, 1)
	lacks(t, f, 8, api.ErrNoID)
	rests(t, a, api.Resting{ID: 2, Ready: 95}, api.Resting{ID: 1, Ready: 8})
	takes(t, a.Fork().Fork(), 8, 1)
	takes(t, a, 95, 2)
	takes(t, a, 0, 1)
}

func TestForkOfNothingAndOfAll(t *testing.T) {
	a := made(t, 8, 9, 1)
	f := a.Fork().Fork()
	takes(t, f, 0, 8)
	takes(t, f, 0, 9)
	g := f.Fork()
	lacks(t, g, 5, api.ErrNoID)
	gives(t, g, 8, 5, api.OK)
	takes(t, g, 6, 8)
	has(t, g, 8, 9)
	rests(t, g)
	free(t, a, 0, 2)
	has(t, a)
}

func TestAnAllocThatNobodyMade(t *testing.T) {
	for _, a := range []*ids.Alloc{nil, {}, new(ids.Alloc)} {
		for _, tick := range append([]int{0, 1, api.MaxTick}, wrongTicks...) {
			lacks(t, a, tick, api.ErrNil)
			for _, id := range []int{0, 1, -1, api.MaxID, math.MinInt, math.MaxInt} {
				gives(t, a, id, tick, api.ErrNil)
				if a.Has(id) {
					t.Errorf("%v: Has of %d", a, id)
				}
			}
			free(t, a, tick, 0)
		}
		has(t, a)
		rests(t, a)
		if a.Len() != 0 || a.Fork() != nil {
			t.Errorf("%v: it tells something", a)
		}
	}
}

func TestWhatIsToldIsOnesOwn(t *testing.T) {
	a := full(t, 1, 6, 4)
	gives(t, a, 5, 1, api.OK)
	gives(t, a, 2, 2, api.OK)
	taken, again := a.Taken(), a.Taken()
	resting, once := a.Resting(), a.Resting()
	for i := range taken {
		taken[i] = -7
	}
	for i := range resting {
		resting[i] = api.Resting{ID: -7, Ready: -7}
	}
	_ = append(taken, -8)
	_ = append(resting, api.Resting{ID: -8})
	if !slices.Equal(again, []int{1, 3, 4, 6}) || !slices.Equal(once, []api.Resting{{ID: 5, Ready: 5}, {ID: 2, Ready: 6}}) {
		t.Errorf("two answers share memory: %v, %v", again, once)
	}
	has(t, a, 1, 3, 4, 6)
	rests(t, a, api.Resting{ID: 5, Ready: 5}, api.Resting{ID: 2, Ready: 6})
	takes(t, a, 6, 5)
	takes(t, a, 6, 2)
	gives(t, a, 1, 9, api.OK)
	if !slices.Equal(again, []int{1, 3, 4, 6}) || !slices.Equal(once, []api.Resting{{ID: 5, Ready: 5}, {ID: 2, Ready: 6}}) {
		t.Errorf("what was told changed: %v, %v", again, once)
	}
}

// row is numbers in the words of the chapter, with rows that are made anew each time.
type row struct {
	span
	free    []int
	taken   []int
	resting []api.Resting
}

// newRow is one at its beginning.
func newRow(s span) row {
	r := row{span: s}
	for id := s.low; id <= s.high; id++ {
		r.free = append(r.free, id)
	}
	return r
}

// roused is it, roused as of the tick.
func (r row) roused(tick int) row {
	other := row{span: r.span, taken: r.taken, free: slices.Clone(r.free)}
	for _, x := range r.resting {
		if x.Ready > tick {
			other.resting = append(other.resting, x)
		} else {
			other.free = append(other.free, x.ID)
		}
	}
	return other
}

// take is Take, and it then.
func (r row) take(tick int) (row, int, api.Errno) {
	if tick < 0 || tick > api.MaxTick {
		return r, 0, api.ErrArg
	}
	r = r.roused(tick)
	if len(r.free) == 0 {
		return r, 0, api.ErrNoID
	}
	id := r.free[0]
	r.free = r.free[1:]
	r.taken = append(slices.Clone(r.taken), id)
	slices.Sort(r.taken)
	return r, id, api.OK
}

// give is Give, and it then.
func (r row) give(id, tick int) (row, api.Errno) {
	if tick < 0 || tick > api.MaxTick {
		return r, api.ErrArg
	}
	at := slices.Index(r.taken, id)
	if at < 0 {
		return r, api.ErrFree
	}
	r.taken = slices.Delete(slices.Clone(r.taken), at, at+1)
	r.resting = append(slices.Clone(r.resting), api.Resting{ID: id, Ready: tick + r.quiet})
	return r, api.OK
}

// alike fails where the numbers do not stand as the row does, as of the ticks.
func alike(t *testing.T, a *ids.Alloc, r row, ticks ...int) {
	t.Helper()
	has(t, a, r.taken...)
	rests(t, a, r.resting...)
	for _, tick := range ticks {
		free(t, a, tick, len(r.roused(tick).free))
	}
	if a.Len() != r.high-r.low+1 {
		t.Errorf("Len %d of %v", a.Len(), r.span)
	}
	for id := r.low - 1; id <= r.high+1; id++ {
		if a.Has(id) != slices.Contains(r.taken, id) {
			t.Errorf("Has of %d: %v", id, a.Has(id))
		}
	}
}

// allWays goes on from there in all ways of so many calls, with ticks below 4, each on a fork of its own.
func allWays(t *testing.T, a *ids.Alloc, r row, calls int) {
	if t.Failed() {
		return
	}
	alike(t, a, r, 0, 1, 2, 3, 4, 5)
	if calls == 0 {
		return
	}
	for tick := range 4 {
		f := a.Fork()
		next, want, err := r.take(tick)
		if id, e := f.Take(tick); id != want || e != err {
			t.Errorf("Take at %d of %v: %d, %d, not %d, %d", tick, r, id, e, want, err)
		}
		allWays(t, f, next, calls-1)
		for id := r.low; id <= r.high; id++ {
			f := a.Fork()
			next, err := r.give(id, tick)
			gives(t, f, id, tick, err)
			if err == api.OK { // what was refused is seen to have changed nothing
				allWays(t, f, next, calls-1)
			} else {
				alike(t, f, next, 0, 1, 2, 3)
			}
		}
	}
}

func TestAllWays(t *testing.T) {
	for _, s := range []span{{1, 1, 0}, {1, 1, 1}, {4, 5, 0}, {4, 5, 1}, {4, 5, 2}, {1, 3, 1}} {
		allWays(t, made(t, s.low, s.high, s.quiet), newRow(s), 5)
	}
}

func TestInTheChaptersWords(t *testing.T) {
	rnd := rand.New(rand.NewSource(111))
	for run := range 300 {
		low := 1 + rnd.Intn(100)
		s := span{low, low + rnd.Intn(20), rnd.Intn(12)}
		a, r := made(t, s.low, s.high, s.quiet), newRow(s)
		tick := 0
		for range 400 {
			tick += rnd.Intn(2) * rnd.Intn(3)
			at := tick
			switch rnd.Intn(10 + 10*(run%2)) { // in every other run ticks fall seldom
			case 0:
				at = wrongTicks[rnd.Intn(len(wrongTicks))]
			case 1, 2, 3:
				at = max(0, tick-rnd.Intn(20))
			case 4:
				at = tick + rnd.Intn(20)
			}
			if rnd.Intn(2) == 0 {
				next, want, err := r.take(at)
				if id, e := a.Take(at); id != want || e != err {
					t.Fatalf("run %d, %v: Take at %d: %d, %d, not %d, %d", run, s, at, id, e, want, err)
				}
				r = next
			} else {
				id := low - 1 + rnd.Intn(s.high-low+3)
				next, err := r.give(id, at)
				gives(t, a, id, at, err)
				r = next
			}
			alike(t, a, r, 0, tick, tick+s.quiet/2, tick+s.quiet, api.MaxTick)
			if rnd.Intn(20) == 0 {
				a = a.Fork() // which goes on as a would
			}
			if t.Failed() {
				t.Fatalf("run %d, %v", run, s)
			}
		}
	}
}

// P11.4 and P11.5

// holding is who holds which numbers, and when those that nobody holds were given.
type holding struct {
	held  map[int]bool
	given map[int]int
}

// took fails where the number was taken already, or rested too short.
func (h holding) took(t *testing.T, id, tick, quiet int) {
	t.Helper()
	if h.held[id] {
		t.Fatalf("%d is taken twice", id)
	}
	if at, was := h.given[id]; was && tick < at+quiet {
		t.Fatalf("%d, given at %d, is taken at %d, quiet %d", id, at, tick, quiet)
	}
	h.held[id] = true
}

// gave makes the number one that nobody holds.
func (h holding) gave(id, tick int) {
	delete(h.held, id)
	h.given[id] = tick
}

func TestEachOnceAndQuiet(t *testing.T) {
	rnd := rand.New(rand.NewSource(112))
	for range 200 {
		n, quiet := 1+rnd.Intn(30), rnd.Intn(15)
		a := made(t, 1, n, quiet)
		h := holding{map[int]bool{}, map[int]int{}}
		tick := 0
		for range 500 {
			tick += rnd.Intn(3)
			if id := 1 + rnd.Intn(n); rnd.Intn(2) == 0 && h.held[id] {
				gives(t, a, id, tick, api.OK)
				h.gave(id, tick)
				continue
			}
			id, err := a.Take(tick)
			if err == api.OK {
				h.took(t, id, tick, quiet)
			}
			if taken := a.Taken(); len(taken) != len(h.held) {
				t.Fatalf("%d are taken, not %d", len(taken), len(h.held))
			}
		}
	}
}

func TestEachOnceWhereTicksFall(t *testing.T) {
	rnd := rand.New(rand.NewSource(113))
	for range 100 {
		n := 1 + rnd.Intn(30)
		a := made(t, 1, n, rnd.Intn(15))
		h := holding{map[int]bool{}, map[int]int{}}
		for range 500 {
			tick := rnd.Intn(100)
			if id := 1 + rnd.Intn(n); rnd.Intn(2) == 0 && h.held[id] {
				gives(t, a, id, tick, api.OK)
				delete(h.held, id)
				continue
			}
			if id, err := a.Take(tick); err == api.OK {
				h.took(t, id, 0, 0)
			}
		}
	}
}

// P11.6

func TestParts(t *testing.T) {
	rnd := rand.New(rand.NewSource(114))
	for range 60 {
		low := 1 + rnd.Intn(50)
		high := low + rnd.Intn(30)
		a := made(t, low, high, rnd.Intn(9))
		for i := range 300 {
			if tick := 1 + rnd.Intn(i+1); rnd.Intn(2) == 0 {
				a.Take(tick)
			} else {
				a.Give(low+rnd.Intn(high-low+1), tick)
			}
			parts(t, a, low, high)
		}
	}
}

// parts fails where free, taken and resting numbers are not those from low to high, each once; none of them may be ready at tick 0.
func parts(t *testing.T, a *ids.Alloc, low, high int) {
	t.Helper()
	all := a.Taken()
	for _, r := range a.Resting() {
		all = append(all, r.ID)
	}
	f := a.Fork()
	for range a.Free(0) {
		id, _ := f.Take(0)
		all = append(all, id)
	}
	lacks(t, f, 0, api.ErrNoID)
	slices.Sort(all)
	if !eachOnce(all, low, high) {
		t.Fatalf("from %d to %d: %v", low, high, all)
	}
}

// eachOnce tells whether the list is the numbers from low to high.
func eachOnce(l []int, low, high int) bool {
	for i, id := range l {
		if id != low+i {
			return false
		}
	}
	return len(l) == high-low+1
}

// P11.7

func TestInTurn(t *testing.T) {
	rnd := rand.New(rand.NewSource(115))
	for range 100 {
		n, quiet := 1+rnd.Intn(40), rnd.Intn(20)
		a := made(t, 1, n, quiet)
		taken := rnd.Perm(1 + rnd.Intn(n)) // so many of them, in the order in which they are given
		for i := range taken {
			takes(t, a, 0, i+1)
		}
		tick := 0
		for _, i := range taken {
			tick += 1 + rnd.Intn(3)
			gives(t, a, i+1, tick, api.OK)
		}
		// Those that were never taken come first.
		for id := len(taken) + 1; id <= n; id++ {
			tick += rnd.Intn(quiet + 1)
			takes(t, a, tick, id)
		}
		for _, i := range taken {
			for a.Free(tick) == 0 {
				lacks(t, a, tick, api.ErrNoID)
				tick++
			}
			takes(t, a, tick, i+1)
		}
		lacks(t, a, api.MaxTick, api.ErrNoID)
	}
}

func TestInTurnWithoutEnd(t *testing.T) {
	// One session at a time goes through all numbers ere the first comes again.
	a := made(t, 1, 7, 3)
	for i := range 100 {
		takes(t, a, i, 1+i%7)
		gives(t, a, 1+i%7, i, api.OK)
	}
	rests(t, a, api.Resting{ID: 7, Ready: 100}, api.Resting{ID: 1, Ready: 101}, api.Resting{ID: 2, Ready: 102})
}

func TestAllNumbersInTurn(t *testing.T) {
	a := full(t, api.MinID, api.MaxID, 9)
	for id := api.MinID; id <= api.MaxID; id++ {
		gives(t, a, id, id, api.OK)
	}
	free(t, a, 9, 0)
	free(t, a, api.MaxID+9, api.MaxID)
	for id := api.MinID; id <= api.MaxID; id++ {
		lacks(t, a, id+8, api.ErrNoID)
		takes(t, a, id+9, id)
	}
	rests(t, a)
	if l := a.Taken(); !eachOnce(l, api.MinID, api.MaxID) {
		t.Errorf("%d are taken", len(l))
	}
}
