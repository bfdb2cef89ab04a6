package bucket_test

import (
	"math"
	"math/big"
	"math/rand"
	"testing"

	"concierge/api"
	"concierge/bucket"
)

// wrongEach and wrongMost are what no rate has, wrongTicks numbers of no tick.
var (
	wrongEach  = []int{math.MinInt, -1 << 32, -api.MaxTokens, -2, -1, api.MaxTokens + 1, 1 << 32, math.MaxInt}
	wrongMost  = append([]int{0}, wrongEach...)
	wrongTicks = []int{math.MinInt, -api.MaxTick, -1 << 32, -2, -1, api.MaxTick + 1, api.MaxTick + 2, 1 << 62, math.MaxInt}
)

// goodEach and goodMost are what a rate has.
var (
	goodEach = []int{0, 1, 2, 7, 1000, api.MaxTokens - 1, api.MaxTokens}
	goodMost = goodEach[1:]
)

// wrongRates are some that may not be.
func wrongRates() []api.Rate {
	l := []api.Rate{{}, {Each: 1}}
	for _, n := range wrongEach {
		l = append(l, api.Rate{Each: n, Most: 1}, api.Rate{Each: n, Most: api.MaxTokens}, api.Rate{Each: n, Most: n})
	}
	for _, n := range wrongMost {
		l = append(l, api.Rate{Each: 0, Most: n}, api.Rate{Each: 1, Most: n}, api.Rate{Each: api.MaxTokens, Most: n})
	}
	return l
}

// rate is so many tokens each tick, so many at most.
func rate(each, most int) api.Rate {
	return api.Rate{Each: each, Most: most}
}

// tokens is a bucket that has so many, as of the tick.
func tokens(n, tick int) api.Bucket {
	return api.Bucket{Tokens: n, Tick: tick}
}

// mac is the address of client n.
func mac(n int) api.MAC {
	return api.MAC{2, 0, 0, 0, byte(n >> 8), byte(n)}
}

// isAt fails where that is not the bucket as of the tick.
func isAt(t *testing.T, r api.Rate, b api.Bucket, tick int, want api.Bucket) {
	t.Helper()
	if got, err := bucket.At(r, b, tick); got != want || err != api.OK {
		t.Errorf("At of %v, %v, %d: %v, %d, not %v", r, b, tick, got, err, want)
	}
}

// isTaken fails where Take tells something else.
func isTaken(t *testing.T, r api.Rate, b api.Bucket, tick int, want api.Bucket, had bool) {
	t.Helper()
	if got, ok := bucket.Take(r, b, tick); got != want || ok != had {
		t.Errorf("Take of %v, %v, %d: %v, %v, not %v, %v", r, b, tick, got, ok, want, had)
	}
}

// isWrong fails where the bucket as of the tick is not refused, by both calls, with nothing beside.
func isWrong(t *testing.T, r api.Rate, b api.Bucket, tick int) {
	t.Helper()
	if got, err := bucket.At(r, b, tick); got != (api.Bucket{}) || err != api.ErrRate {
		t.Errorf("At of %v, %v, %d: %v, %d", r, b, tick, got, err)
	}
	isTaken(t, r, b, tick, api.Bucket{}, false)
}

// P10.1

func TestCheckAndFull(t *testing.T) {
	for _, each := range goodEach {
		for _, most := range goodMost {
			r := rate(each, most)
			if err := bucket.Check(r); err != api.OK {
				t.Errorf("Check of %v: %d", r, err)
			}
			if b := bucket.Full(r); b != tokens(most, 0) {
				t.Errorf("Full of %v: %v", r, b)
			}
		}
	}
	for _, r := range wrongRates() {
		if err := bucket.Check(r); err != api.ErrRate {
			t.Errorf("Check of %v: %d", r, err)
		}
		if b := bucket.Full(r); b != (api.Bucket{}) {
			t.Errorf("Full of %v: %v", r, b)
		}
	}
}

func TestAt(t *testing.T) {
	for _, c := range []struct {
		r    api.Rate
		b    api.Bucket
		tick int
		want int
	}{
		{rate(1, 2), tokens(2, 0), 0, 2}, {rate(1, 2), tokens(0, 0), 0, 0}, {rate(1, 2), tokens(0, 0), 1, 1}, {rate(1, 2), tokens(0, 0), 2, 2}, {rate(1, 2), tokens(0, 0), 3, 2},
		{rate(3, 10), tokens(1, 5), 5, 1}, {rate(3, 10), tokens(1, 5), 6, 4}, {rate(3, 10), tokens(1, 5), 7, 7}, {rate(3, 10), tokens(1, 5), 8, 10}, {rate(3, 10), tokens(1, 5), 9, 10},
		{rate(3, 9), tokens(1, 5), 8, 9}, {rate(3, 11), tokens(1, 5), 8, 10}, {rate(3, 11), tokens(1, 5), 9, 11},
		{rate(0, 5), tokens(0, 0), api.MaxTick, 0}, {rate(0, 5), tokens(3, 7), api.MaxTick, 3}, {rate(0, 5), tokens(5, 0), 9, 5},
		{rate(5, 1), tokens(0, 0), 1, 1}, {rate(5, 1), tokens(0, 1), 1, 0},
		{rate(1, api.MaxTokens), tokens(0, 0), api.MaxTokens - 1, api.MaxTokens - 1}, {rate(1, api.MaxTokens), tokens(0, 0), api.MaxTokens, api.MaxTokens},
		{rate(api.MaxTokens, api.MaxTokens), tokens(api.MaxTokens, 0), api.MaxTick, api.MaxTokens},
		{rate(api.MaxTokens, api.MaxTokens), tokens(0, 0), api.MaxTick, api.MaxTokens}, {rate(api.MaxTokens, 1), tokens(0, 0), api.MaxTick, 1},
		{rate(2, 9), tokens(4, api.MaxTick), api.MaxTick, 4}, {rate(2, 9), tokens(4, api.MaxTick-1), api.MaxTick, 6},
	} {
		isAt(t, c.r, c.b, c.tick, tokens(c.want, c.tick))
	}
}

func TestAtOfAnyBucket(t *testing.T) {
	r := rand.New(rand.NewSource(101))
	for i := range 20000 {
		rt := rate(r.Intn(1<<(i%21)+1), 1+r.Intn(1<<(i/21%21)))
		b := tokens(r.Intn(rt.Most+1), r.Intn(1<<(i%41)))
		tick := min(b.Tick+r.Intn(1<<(i/41%41)), api.MaxTick)
		sum := big.NewInt(int64(tick - b.Tick))
		sum.Mul(sum, big.NewInt(int64(rt.Each))).Add(sum, big.NewInt(int64(b.Tokens)))
		want := rt.Most
		if sum.Cmp(big.NewInt(int64(rt.Most))) < 0 {
			want = int(sum.Int64())
		}
		isAt(t, rt, b, tick, tokens(want, tick))
	}
}

func TestAtTickByTick(t *testing.T) {
	for each := range 4 {
		for most := 1; most <= 7; most++ {
			for had := range most + 1 {
				n := had
				for tick := 3; tick < 14; tick++ {
					isAt(t, rate(each, most), tokens(had, 3), tick, tokens(n, tick))
					for range each {
						if n < most {
							n++
						}
					}
				}
			}
		}
	}
}

func TestWrongRates(t *testing.T) {
	for _, r := range wrongRates() {
		for _, b := range []api.Bucket{{}, tokens(1, 0), tokens(-1, 0), tokens(0, -1), tokens(api.MaxTokens, api.MaxTick)} {
			for _, tick := range append([]int{0, 1, api.MaxTick}, wrongTicks...) {
				isWrong(t, r, b, tick)
			}
		}
	}
}

func TestWrongBuckets(t *testing.T) {
	for _, r := range []api.Rate{rate(0, 1), rate(1, 2), rate(7, 100), rate(api.MaxTokens, api.MaxTokens)} {
		for _, n := range []int{math.MinInt, -1 << 32, -1, r.Most + 1, r.Most + 2, 1 << 32, math.MaxInt} {
			for _, tick := range []int{0, 1, api.MaxTick} {
				isWrong(t, r, tokens(n, 0), tick)
				isWrong(t, r, tokens(n, tick), tick)
				isWrong(t, r, tokens(n, tick), api.MaxTick)
			}
		}
		for _, n := range wrongTicks {
			for _, tick := range append([]int{0, 1, api.MaxTick}, wrongTicks...) {
				isWrong(t, r, tokens(0, n), tick)
				isWrong(t, r, tokens(r.Most, n), tick)
			}
		}
	}
}

func TestWrongTicks(t *testing.T) {
	for _, had := range []int{0, 1, 2} {
		for _, tick := range wrongTicks {
			isWrong(t, rate(1, 2), tokens(had, 0), tick)
			isWrong(t, rate(1, 2), tokens(had, 9), tick)
			isWrong(t, rate(1, 2), tokens(had, api.MaxTick), tick)
		}
		for tick := range 9 {
			isWrong(t, rate(1, 2), tokens(had, 9), tick)
		}
		isWrong(t, rate(1, 2), tokens(had, api.MaxTick), api.MaxTick-1)
		isWrong(t, rate(1, 2), tokens(had, api.MaxTick), 0)
	}
}

// P10.2

func TestTake(t *testing.T) {
	isTaken(t, rate(1, 2), tokens(2, 0), 0, tokens(1, 0), true)
	isTaken(t, rate(1, 2), tokens(1, 0), 0, tokens(0, 0), true)
	isTaken(t, rate(1, 2), tokens(0, 0), 0, tokens(0, 0), false)
	isTaken(t, rate(1, 2), tokens(0, 0), 1, tokens(0, 1), true)
	isTaken(t, rate(1, 2), tokens(0, 0), 2, tokens(1, 2), true)
	isTaken(t, rate(1, 2), tokens(0, 0), 9, tokens(1, 9), true)
	// Who has none and gets none goes on with the clock all the same.
	isTaken(t, rate(0, 2), tokens(0, 3), 9, tokens(0, 9), false)
	isTaken(t, rate(0, 2), tokens(0, 0), api.MaxTick, tokens(0, api.MaxTick), false)
	isTaken(t, rate(0, 2), tokens(1, 0), api.MaxTick, tokens(0, api.MaxTick), true)
	isTaken(t, rate(api.MaxTokens, api.MaxTokens), tokens(0, 0), api.MaxTick, tokens(api.MaxTokens-1, api.MaxTick), true)
	isTaken(t, rate(9, 1), tokens(0, 4), 5, tokens(0, 5), true)
}

func TestTakeOfAnyBucket(t *testing.T) {
	r := rand.New(rand.NewSource(102))
	for range 20000 {
		rt := rate(r.Intn(4)-1, r.Intn(6))
		b, tick := tokens(r.Intn(8)-1, r.Intn(8)-1), r.Intn(12)-1
		now, err := bucket.At(rt, b, tick)
		had := err == api.OK && now.Tokens > 0
		if had {
			now.Tokens--
		}
		isTaken(t, rt, b, tick, now, had)
	}
}

func TestTakeInARow(t *testing.T) {
	// The chapter's example, and on: a tick brings one.
	b := bucket.Full(rate(1, 2))
	for i, c := range []struct {
		tick int
		had  bool
	}{{0, true}, {0, true}, {0, false}, {1, true}, {1, false}, {2, true}, {9, true}, {9, true}, {9, false}} {
		next, had := bucket.Take(rate(1, 2), b, c.tick)
		if had != c.had {
			t.Errorf("take %d, at %d: %v", i, c.tick, had)
		}
		b = next
	}
}

// P10.3

// made is a limiter of both rates; it fails where there is none.
func made(t *testing.T, all, own api.Rate) *bucket.Limiter {
	t.Helper()
	l, err := bucket.New(all, own)
	if l == nil || err != api.OK {
		t.Fatalf("New of %v, %v: %v, %d", all, own, l, err)
	}
	return l
}

// free is a rate that holds nobody back.
var free = api.Rate{Each: api.MaxTokens, Most: api.MaxTokens}

// allows fails where Allow of client n at the tick tells something else.
func allows(t *testing.T, l *bucket.Limiter, n, tick int, want bool) {
	t.Helper()
	if got := l.Allow(mac(n), tick); got != want {
		t.Errorf("Allow of %d at %d: %v", n, tick, got)
	}
}

// stands fails where there are not so many addresses with a bucket, or the limiter's tick is another.
func stands(t *testing.T, l *bucket.Limiter, size, tick int) {
	t.Helper()
	if l.Len() != size || l.Tick() != tick {
		t.Errorf("Len %d, Tick %d, not %d, %d", l.Len(), l.Tick(), size, tick)
	}
}

func TestNew(t *testing.T) {
	for _, all := range []api.Rate{rate(0, 1), rate(1, 2), free} {
		for _, own := range []api.Rate{rate(0, 1), rate(1, 2), free} {
			stands(t, made(t, all, own), 0, 0)
		}
	}
}

func TestNewOfWrongRates(t *testing.T) {
	refused := func(all, own api.Rate) {
		if l, err := bucket.New(all, own); l != nil || err != api.ErrRate {
			t.Errorf("New of %v, %v: %v, %d", all, own, l, err)
		}
	}
	for _, r := range wrongRates() {
		refused(r, rate(1, 2))
		refused(rate(1, 2), r)
		refused(r, r)
	}
}

func TestALimiterThatNobodyMade(t *testing.T) {
	for _, l := range []*bucket.Limiter{nil, {}, new(bucket.Limiter)} {
		for _, tick := range append([]int{0, 1, api.MaxTick}, wrongTicks...) {
			if l.Allow(mac(1), tick) || l.Len() != 0 || l.Tick() != 0 || l.Fork() != nil {
				t.Errorf("%v at %d: it tells something", l, tick)
			}
		}
	}
}

func TestAllowByTheBucketOfAll(t *testing.T) {
	l := made(t, rate(1, 3), free)
	stands(t, l, 0, 0)
	for n := range 3 {
		allows(t, l, n, 0, true)
		stands(t, l, n+1, 0)
	}
	allows(t, l, 0, 0, false)
	allows(t, l, 3, 0, false)
	stands(t, l, 3, 0)
	allows(t, l, 3, 1, true)
	stands(t, l, 1, 1)
	allows(t, l, 0, 1, false)
	stands(t, l, 1, 1)
	// No more come together than Most.
	for n := range 5 {
		allows(t, l, 10+n, 100, n < 3)
	}
	stands(t, l, 3, 100)
}

func TestAllowByTheAddress(t *testing.T) {
	l := made(t, free, rate(1, 2))
	allows(t, l, 1, 0, true)
	allows(t, l, 1, 0, true)
	allows(t, l, 1, 0, false)
	allows(t, l, 2, 0, true)
	stands(t, l, 2, 0)
	allows(t, l, 1, 1, true)
	stands(t, l, 1, 1) // client 2 has a full one again
	allows(t, l, 1, 1, false)
	allows(t, l, 2, 1, true)
	allows(t, l, 2, 1, true)
	allows(t, l, 2, 1, false)
	stands(t, l, 2, 1)
	// A bucket that is forgotten holds no more than Most.
	allows(t, l, 1, 50, true)
	stands(t, l, 1, 50)
	allows(t, l, 1, 50, true)
	allows(t, l, 1, 50, false)
}

func TestAddressesAreHeldApart(t *testing.T) {
	l := made(t, free, rate(0, 1))
	base := api.MAC{2, 4, 6, 8, 10, 12}
	if !l.Allow(base, 0) || l.Allow(base, 0) {
		t.Error("the first one's bucket")
	}
	for i := range 6 {
		m := base
		m[i] ^= 1
		if !l.Allow(m, 0) || l.Allow(m, 0) {
			t.Errorf("another one by byte %d", i)
		}
	}
	// Zeros, and that of all, are addresses as well.
	for _, m := range []api.MAC{{}, {255, 255, 255, 255, 255, 255}} {
		if !l.Allow(m, 0) || l.Allow(m, 0) {
			t.Errorf("%v", m)
		}
	}
	stands(t, l, 9, 0)
}

func TestRefusedByAllNothingIsTaken(t *testing.T) {
	// All gets its token at tick 3 alone, an address two for ever.
	l := made(t, rate(1, 1), rate(0, 2))
	allows(t, l, 1, 0, true)
	for range 5 {
		allows(t, l, 1, 0, false)
		allows(t, l, 2, 0, false)
	}
	stands(t, l, 1, 0) // client 2 has none still
	allows(t, l, 1, 1, true)
	allows(t, l, 1, 2, false) // both of its own are gone
	allows(t, l, 2, 2, true)
	allows(t, l, 2, 3, true)
	allows(t, l, 2, 4, false)
	stands(t, l, 2, 4)
}

func TestRefusedByTheAddressNothingIsTaken(t *testing.T) {
	l := made(t, rate(0, 3), rate(0, 1))
	allows(t, l, 1, 0, true)
	for tick := range 5 {
		allows(t, l, 1, tick, false)
	}
	stands(t, l, 1, 4)
	allows(t, l, 2, 4, true)
	allows(t, l, 3, 4, true)
	allows(t, l, 4, 4, false)
	stands(t, l, 3, 4)
}

func TestRefusedAndForgottenAllTheSame(t *testing.T) {
	l := made(t, rate(0, 2), rate(1, 1))
	allows(t, l, 1, 0, true)
	allows(t, l, 2, 0, true)
	stands(t, l, 2, 0)
	allows(t, l, 1, 1, false)
	stands(t, l, 0, 1)
	allows(t, l, 3, 7, false)
	stands(t, l, 0, 7)
}

func TestForgottenWhenFullAndNotAhead(t *testing.T) {
	l := made(t, free, rate(2, 6))
	for n := range 6 {
		for range n + 1 {
			allows(t, l, n, 10, true) // client n lacks n + 1
		}
	}
	stands(t, l, 6, 10)
	for _, c := range []struct{ tick, left int }{{10, 6}, {11, 4}, {12, 2}, {13, 0}} {
		// Client 99 is asked for lest the clock stand still: it has one then, too.
		atOnce := l.Fork()
		allows(t, atOnce, 99, c.tick, true)
		stands(t, atOnce, c.left+1, c.tick)
	}
	for _, c := range []struct{ tick, left int }{{11, 4}, {12, 2}, {13, 0}} {
		allows(t, l, 99, c.tick, true)
		stands(t, l, c.left+1, c.tick)
	}
}

func TestNeverForgotten(t *testing.T) {
	// Where no tokens come, what was taken stays so.
	l := made(t, free, rate(0, 2))
	allows(t, l, 1, 0, true)
	allows(t, l, 2, api.MaxTick, true)
	stands(t, l, 2, api.MaxTick)
	allows(t, l, 1, api.MaxTick, true)
	allows(t, l, 1, api.MaxTick, false)
}

func TestTooManyAddresses(t *testing.T) {
	for _, size := range []int{api.MaxOwn - 1, api.MaxOwn} {
		l := made(t, free, rate(1, 3))
		for n := range size {
			allows(t, l, n, 5, true)
		}
		stands(t, l, size, 5)
		room := size < api.MaxOwn
		allows(t, l, 1000, 5, room)
		stands(t, l, api.MaxOwn, 5)
		allows(t, l, 1001, 5, false)
		// Who has a bucket goes on.
		allows(t, l, 0, 5, true)
		allows(t, l, 0, 5, true)
		allows(t, l, 0, 5, false)
		stands(t, l, api.MaxOwn, 5)
		// A tick on all but client 0 are full: there is room.
		allows(t, l, 1001, 6, true)
		stands(t, l, 2, 6)
	}
}

func TestTooManyAddressesTakeNothing(t *testing.T) {
	l := made(t, rate(0, api.MaxOwn+2), rate(0, 2))
	for n := range api.MaxOwn {
		allows(t, l, n, 0, true)
	}
	for n := range 10 {
		allows(t, l, 1000+n, n, false)
	}
	stands(t, l, api.MaxOwn, 9) // the tick goes on, nobody is forgotten
	allows(t, l, 0, 9, true)
	allows(t, l, 1, 9, true)
	allows(t, l, 2, 9, false)
	stands(t, l, api.MaxOwn, 9)
}

func TestFullAgainMakesRoom(t *testing.T) {
	l := made(t, free, rate(1, 2))
	for n := range api.MaxOwn {
		allows(t, l, n, 0, true)
		if n >= 3 {
			allows(t, l, n, 0, true)
		}
	}
	// Clients 0 to 2 are full at the next tick, the others lack one.
	for n := range 5 {
		allows(t, l, 1000+n, 1, n < 3)
	}
	stands(t, l, api.MaxOwn, 1)
	allows(t, l, 3, 1, true)
	allows(t, l, 3, 1, false)
	allows(t, l, 0, 1, false) // it has none any more, and there is no room
}

func TestTicksOfALimiter(t *testing.T) {
	l := made(t, free, rate(1, 1))
	allows(t, l, 1, 5, true)
	stands(t, l, 1, 5)
	// Ticks that are not from the limiter's on leave it as it is.
	for _, tick := range append([]int{0, 1, 4}, wrongTicks...) {
		allows(t, l, 1, tick, false)
		stands(t, l, 1, 5)
	}
	allows(t, l, 2, 3, true) // client 2's bucket is as of 5
	stands(t, l, 2, 5)
	allows(t, l, 2, 4, false)
	allows(t, l, 2, 5, false)
	allows(t, l, 2, 6, true)
	stands(t, l, 1, 6)
	allows(t, l, 2, api.MaxTick+1, false)
	stands(t, l, 1, 6)
	allows(t, l, 1, api.MaxTick, true)
	stands(t, l, 1, api.MaxTick)
	for _, tick := range append([]int{0, 6, api.MaxTick - 1, api.MaxTick}, wrongTicks...) {
		allows(t, l, 1, tick, false)
		stands(t, l, 1, api.MaxTick)
	}
	allows(t, l, 2, 0, true)
	stands(t, l, 2, api.MaxTick)
}

func TestWrongTicksAtFirst(t *testing.T) {
	for _, tick := range wrongTicks {
		l := made(t, rate(1, 1), free)
		allows(t, l, 1, tick, true)
		stands(t, l, 1, 0)
		allows(t, l, 2, tick, false)
		stands(t, l, 1, 0)
	}
}

func TestTheFirstTickIsLate(t *testing.T) {
	for _, tick := range []int{1, 1000, api.MaxTick - 1, api.MaxTick} {
		l := made(t, rate(api.MaxTokens, 2), rate(api.MaxTokens, 1))
		allows(t, l, 1, tick, true)
		allows(t, l, 1, tick, false)
		allows(t, l, 2, tick, true)
		allows(t, l, 3, tick, false)
		stands(t, l, 2, tick)
	}
}

func TestFork(t *testing.T) {
	l := made(t, rate(0, 6), rate(0, 2))
	allows(t, l, 1, 3, true)
	f := l.Fork()
	stands(t, f, 1, 3)
	allows(t, f, 1, 4, true)
	allows(t, f, 2, 4, true)
	stands(t, f, 2, 4)
	stands(t, l, 1, 3)
	allows(t, l, 1, 3, true) // the fork took nothing of it
	allows(t, l, 3, 9, true)
	allows(t, l, 4, 9, true)
	stands(t, l, 3, 9)
	stands(t, f, 2, 4)
	allows(t, f, 1, 4, false)
	// All had five left at the fork: each takes those of its own.
	for i := range 3 {
		allows(t, f, 10+i, 5, true)
	}
	allows(t, f, 20, 5, false)
	for i := range 2 {
		allows(t, l, 10+i, 9, true)
	}
	allows(t, l, 20, 9, false)
	stands(t, f, 5, 5)
	stands(t, l, 5, 9)
}

func TestForkOfAFork(t *testing.T) {
	l := made(t, rate(1, 1), rate(1, 1))
	f := l.Fork().Fork()
	stands(t, f, 0, 0)
	allows(t, f, 1, 2, true)
	allows(t, f, 1, 2, false)
	stands(t, f, 1, 2)
	stands(t, l, 0, 0)
	allows(t, l, 1, 0, true)
}

func TestAFullFork(t *testing.T) {
	l := made(t, free, rate(1, 1))
	for n := range api.MaxOwn {
		allows(t, l, n, 0, true)
	}
	f := l.Fork()
	allows(t, f, 1000, 1, true) // and all the others are forgotten
	stands(t, f, 1, 1)
	stands(t, l, api.MaxOwn, 0)
	allows(t, l, 1000, 0, false)
	allows(t, l, 0, 0, false)
}

// held is a limiter in the words of the chapter, with rows that are gone through; limit is how many addresses there may be, keeps that none is forgotten.
type held struct {
	all, own api.Rate
	limit    int
	keeps    bool
	tick     int
	tokens   int
	macs     []api.MAC
	had      []int
}

// newHeld is one at its beginning.
func newHeld(all, own api.Rate) *held {
	return &held{all: all, own: own, limit: api.MaxOwn, tokens: all.Most}
}

// pass lets one tick pass.
func (h *held) pass() {
	h.tick++
	h.tokens = min(h.tokens+h.all.Each, h.all.Most)
	for i := range h.had {
		h.had[i] = min(h.had[i]+h.own.Each, h.own.Most)
	}
}

// allow is Allow.
func (h *held) allow(m api.MAC, tick int) bool {
	for tick <= api.MaxTick && h.tick < tick {
		h.pass()
	}
	for i := len(h.macs) - 1; i >= 0 && !h.keeps; i-- {
		if h.had[i] == h.own.Most {
			h.macs = append(h.macs[:i:i], h.macs[i+1:]...)
			h.had = append(h.had[:i:i], h.had[i+1:]...)
		}
	}
	at := -1
	for i := range h.macs {
		if h.macs[i] == m {
			at = i
		}
	}
	has := h.own.Most
	if at >= 0 {
		has = h.had[at]
	} else if len(h.macs) >= h.limit {
		return false
	}
	if h.tokens == 0 || has == 0 {
		return false
	}
	if at < 0 {
		h.macs, h.had = append(h.macs, m), append(h.had, 0)
		at = len(h.macs) - 1
	}
	h.tokens, h.had[at] = h.tokens-1, has-1
	return true
}

// asked is one call of Allow: who, and when.
type asked struct{ who, tick int }

// askings are so many calls of so many clients, with ticks that go on, stay, or may not be.
func askings(r *rand.Rand, size, clients int) []asked {
	l := make([]asked, size)
	tick := 0
	for i := range l {
		switch r.Intn(10) {
		case 0, 1:
			tick += 1 + r.Intn(3)
		case 2:
			tick += r.Intn(2) * r.Intn(9)
		}
		l[i] = asked{r.Intn(clients), tick}
		switch r.Intn(12) {
		case 0:
			l[i].tick = wrongTicks[r.Intn(len(wrongTicks))]
		case 1:
			l[i].tick = r.Intn(tick + 1)
		}
	}
	return l
}

// limits are rates, tight and loose.
func limits(r *rand.Rand) (all, own api.Rate) {
	all, own = rate(r.Intn(6), 1+r.Intn(9)), rate(r.Intn(4), 1+r.Intn(4))
	if r.Intn(3) == 0 {
		all = free
	}
	return all, own
}

func TestAllowInTheChaptersWords(t *testing.T) {
	r := rand.New(rand.NewSource(103))
	for run := range 300 {
		all, own := limits(r)
		l, h := made(t, all, own), newHeld(all, own)
		for i, a := range askings(r, 200, 1+r.Intn(12)) {
			if got, want := l.Allow(mac(a.who), a.tick), h.allow(mac(a.who), a.tick); got != want {
				t.Fatalf("run %d, %v of all, %v of each: call %d, of %d at %d: %v", run, all, own, i, a.who, a.tick, got)
			}
			stands(t, l, len(h.macs), h.tick)
			if r.Intn(20) == 0 {
				l = l.Fork() // which goes on as l would
			}
		}
	}
}

func TestAllowOfManyInTheChaptersWords(t *testing.T) {
	r := rand.New(rand.NewSource(104))
	for run := range 12 {
		all, own := rate(200+r.Intn(200), 2000), rate(run%3, 1+r.Intn(6))
		l, h := made(t, all, own), newHeld(all, own)
		full := false
		for i := range 4000 {
			who, tick := r.Intn(600), i/(100+50*(run%5))
			if got, want := l.Allow(mac(who), tick), h.allow(mac(who), tick); got != want {
				t.Fatalf("run %d, %v of all, %v of each: call %d, of %d at %d: %v", run, all, own, i, who, tick, got)
			}
			stands(t, l, len(h.macs), h.tick)
			full = full || l.Len() == api.MaxOwn
		}
		if !full && own.Each == 0 {
			t.Errorf("run %d never had %d addresses", run, api.MaxOwn)
		}
	}
}

func TestTheSameAgain(t *testing.T) {
	// What Allow tells hangs on no order in which buckets are gone through.
	askedFor := askings(rand.New(rand.NewSource(105)), 3000, 400)
	first := made(t, rate(30, 300), rate(1, 3))
	var told []bool
	for _, a := range askedFor {
		told = append(told, first.Allow(mac(a.who), a.tick))
	}
	for range 5 {
		l := made(t, rate(30, 300), rate(1, 3))
		for i, a := range askedFor {
			allows(t, l, a.who, a.tick, told[i])
		}
		stands(t, l, first.Len(), first.Tick())
	}
}

// P10.4

// within fails where more of the ticks lie within some w ticks than most, and w times each.
func within(t *testing.T, what string, r api.Rate, ticks []int) {
	t.Helper()
	for i := range ticks {
		for j := i; j < len(ticks); j++ {
			w := ticks[j] - ticks[i] + 1
			if n := j - i + 1; n > r.Most+w*r.Each {
				t.Fatalf("%s, %v: %d within %d ticks", what, r, n, w)
			}
		}
	}
}

func TestWindows(t *testing.T) {
	r := rand.New(rand.NewSource(106))
	for range 100 {
		all, own := limits(r)
		l := made(t, all, own)
		var ofAll []int
		var ofOwn [5][]int
		for _, a := range askings(r, 400, len(ofOwn)) {
			if l.Allow(mac(a.who), a.tick) {
				ofAll = append(ofAll, l.Tick())
				ofOwn[a.who] = append(ofOwn[a.who], l.Tick())
			}
		}
		within(t, "all", all, ofAll)
		for _, ticks := range ofOwn {
			within(t, "own", own, ticks)
		}
	}
}

func TestWindowsAreFilled(t *testing.T) {
	// Whoever asks without end gets what the rate lets through, and no more.
	for _, r := range []api.Rate{rate(0, 1), rate(0, 5), rate(1, 1), rate(1, 4), rate(3, 4), rate(2, 9), rate(4, 4)} {
		byAll, byOwn := made(t, r, free), made(t, free, r)
		for w := 1; w <= 20; w++ {
			ofAll, ofOwn := 0, 0
			for range 12 {
				if byAll.Allow(mac(ofAll), w) {
					ofAll++
				}
				if byOwn.Allow(mac(7), w) {
					ofOwn++
				}
			}
			want := r.Each
			if w == 1 {
				want = r.Most
			}
			if ofAll != want || ofOwn != want {
				t.Errorf("%v: tick %d: %d of all, %d of one, not %d", r, w, ofAll, ofOwn, want)
			}
		}
	}
}

// P10.5

func TestForgottenAndNotForgotten(t *testing.T) {
	r := rand.New(rand.NewSource(107))
	for run := range 200 {
		all, own := limits(r)
		l, h := made(t, all, own), newHeld(all, own)
		h.keeps = true
		for i, a := range askings(r, 300, 1+r.Intn(40)) {
			if got, want := l.Allow(mac(a.who), a.tick), h.allow(mac(a.who), a.tick); got != want {
				t.Fatalf("run %d, %v of all, %v of each: call %d, of %d at %d: %v", run, all, own, i, a.who, a.tick, got)
			}
		}
	}
}

func TestForgottenWhereThereAreTooMany(t *testing.T) {
	// Were none forgotten, the second round of clients would find no room.
	l := made(t, free, rate(1, 1))
	for round := range 5 {
		for n := range api.MaxOwn {
			allows(t, l, round*api.MaxOwn+n, round, true)
		}
		allows(t, l, 5000, round, false)
		stands(t, l, api.MaxOwn, round)
	}
}

// P10.6

func TestCuts(t *testing.T) {
	r := rand.New(rand.NewSource(108))
	for i := range 20000 {
		rt := rate(r.Intn(1<<(i%21)+1), 1+r.Intn(1<<(i/21%21)))
		b := tokens(r.Intn(rt.Most+1), r.Intn(1<<(i%40)))
		one := min(b.Tick+r.Intn(1<<(i%13)), api.MaxTick)
		other := min(one+r.Intn(1<<(i%11)), api.MaxTick)
		cut, err := bucket.At(rt, b, one)
		if err != api.OK {
			t.Fatalf("At of %v, %v, %d: %d", rt, b, one, err)
		}
		whole, err := bucket.At(rt, b, other)
		if err != api.OK {
			t.Fatalf("At of %v, %v, %d: %d", rt, b, other, err)
		}
		isAt(t, rt, cut, other, whole)
	}
}
