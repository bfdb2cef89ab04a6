package cookie_test

import (
	"bytes"
	libhmac "crypto/hmac"
	"crypto/sha256"
	"encoding/binary"
	"encoding/hex"
	"math"
	"math/rand"
	"slices"
	"strings"
	"testing"

	"concierge/api"
	"concierge/cookie"
)

// wrongTicks are numbers of no tick; nor does an epoch have so many (or 0) of them.
var wrongTicks = []int{math.MinInt, -api.MaxTick, -1 << 32, -10, -1, api.MaxTick + 1, api.MaxTick + 10, 1 << 41, 1 << 62, math.MaxInt}

// mac is a client's address, other another's.
var (
	mac   = api.MAC{2, 0, 0, 0, 0, 0xab}
	other = api.MAC{2, 0, 0, 0, 0, 0xac}
)

// drawn are so many bytes, the same for the same seed.
func drawn(seed int64, size int) []byte {
	return more(rand.New(rand.NewSource(seed)), size)
}

// more are so many bytes that r draws.
func more(r *rand.Rand, size int) []byte {
	b := make([]byte, size)
	r.Read(b)
	return b
}

// conf is settings of that secret, with epochs of so many ticks.
func conf(secret string, ticks int) api.CookieConf {
	return api.CookieConf{Secret: []byte(secret), Ticks: ticks}
}

// libSum is the library's HMAC of the parts, one behind the other.
func libSum(key []byte, parts ...[]byte) []byte {
	h := libhmac.New(sha256.New, key)
	h.Write(bytes.Join(parts, nil))
	return h.Sum(nil)
}

// want is the cookie of the epoch of that number, by the library's HMAC alone.
func want(secret []byte, m api.MAC, uniq []byte, epoch uint64) []byte {
	number := binary.BigEndian.AppendUint64(nil, epoch)
	key := libSum(secret, []byte("epoch\x00"), number)
	return libSum(key, m[:], binary.BigEndian.AppendUint16(nil, uint16(len(uniq))), uniq, number)
}

// made is the cookie that Make tells; it fails where there is none.
func made(t *testing.T, c api.CookieConf, m api.MAC, uniq []byte, tick int) []byte {
	t.Helper()
	b, err := cookie.Make(c, m, uniq, tick)
	if err != api.OK || len(b) != api.CookieBytes {
		t.Fatalf("Make at %d of %d: %x, %d", tick, c.Ticks, b, err)
	}
	return b
}

// isEpoch fails where that is not the tick's epoch.
func isEpoch(t *testing.T, c api.CookieConf, tick, want int) {
	t.Helper()
	if n, err := cookie.Epoch(c, tick); n != want || err != api.OK {
		t.Errorf("Epoch of %d, each of %d: %d, %d, not %d", tick, c.Ticks, n, err, want)
	}
}

// noEpoch fails where the tick's epoch is not refused with that error, and nothing beside it.
func noEpoch(t *testing.T, c api.CookieConf, tick int, want api.Errno) {
	t.Helper()
	if n, err := cookie.Epoch(c, tick); n != 0 || err != want {
		t.Errorf("Epoch of %d, each of %d: %d, %d, not %d", tick, c.Ticks, n, err, want)
	}
}

// noCookie fails where no cookie is made with that error, and nothing beside it, or where one is valid all the same.
func noCookie(t *testing.T, c api.CookieConf, uniq []byte, tick int, want api.Errno) {
	t.Helper()
	b, err := cookie.Make(c, mac, uniq, tick)
	if len(b) != 0 || err != want {
		t.Errorf("Make at %d, each of %d, secret of %d, uniq of %d: %x, %d, not %d", tick, c.Ticks, len(c.Secret), len(uniq), b, err, want)
	}
	// What would be the cookie, were there no error.
	for _, shown := range unmade(c, uniq, tick) {
		isValid(t, "where none is made", c, mac, uniq, shown, tick, false)
	}
}

// unmade are bytes that somebody could take for a cookie where none is made.
func unmade(c api.CookieConf, uniq []byte, tick int) [][]byte {
	l := [][]byte{nil, {}, make([]byte, api.CookieBytes), want(c.Secret, mac, uniq, 0)}
	if c.Ticks != 0 {
		n := tick / c.Ticks
		l = append(l, want(c.Secret, mac, uniq, uint64(n)), want(c.Secret, mac, uniq, uint64(n-1)))
	}
	return l
}

// isValid fails where the bytes are not valid, or not invalid, as that says.
func isValid(t *testing.T, what string, c api.CookieConf, m api.MAC, uniq, shown []byte, tick int, want bool) {
	t.Helper()
	if got := cookie.Valid(c, m, uniq, shown, tick); got != want {
		t.Errorf("%s: Valid at %d, each of %d, uniq of %d, %x: %v", what, tick, c.Ticks, len(uniq), shown, got)
	}
}

// P9.1

func TestCheck(t *testing.T) {
	ticks := append([]int{0, 1, 2, 9, 10, 1 << 20, 1 << 32, api.MaxTick - 1, api.MaxTick}, wrongTicks...)
	for _, size := range []int{0, 1, 2, 31, 32, 33, 63, 64, 65, 66, 127, 128, 129, 256, 257, 1000, 1 << 16} {
		for _, n := range ticks {
			want := api.ErrCookie
			if size >= 1 && size <= 64 && n >= 1 && n <= api.MaxTick {
				want = api.OK
			}
			c := api.CookieConf{Secret: drawn(1, size), Ticks: n}
			if got := cookie.Check(c); got != want {
				t.Errorf("Check of a secret of %d, each of %d: %d, not %d", size, n, got, want)
			}
			if want != api.OK {
				noEpoch(t, c, 0, want)
				noEpoch(t, c, 100, want)
			}
		}
	}
}

func TestCheckOfNothing(t *testing.T) {
	for _, c := range []api.CookieConf{{}, {Ticks: 10}, {Secret: []byte{}, Ticks: 10}, {Secret: []byte("s")}} {
		if got := cookie.Check(c); got != api.ErrCookie {
			t.Errorf("Check of %v: %d", c, got)
		}
	}
	// A secret of zeros is one as well.
	if got := cookie.Check(api.CookieConf{Secret: make([]byte, 1), Ticks: 1}); got != api.OK {
		t.Errorf("Check of a zero: %d", got)
	}
}

func TestEpoch(t *testing.T) {
	for _, c := range []struct{ ticks, tick, epoch int }{
		{1, 0, 0}, {1, 1, 1}, {1, 7, 7}, {1, api.MaxTick - 1, api.MaxTick - 1}, {1, api.MaxTick, api.MaxTick},
		{2, 0, 0}, {2, 1, 0}, {2, 2, 1}, {2, 3, 1}, {2, api.MaxTick - 1, 1<<39 - 1}, {2, api.MaxTick, 1 << 39},
		{10, 0, 0}, {10, 9, 0}, {10, 10, 1}, {10, 19, 1}, {10, 20, 2}, {10, 105, 10},
		{api.MaxTick - 1, api.MaxTick - 2, 0}, {api.MaxTick - 1, api.MaxTick - 1, 1}, {api.MaxTick - 1, api.MaxTick, 1},
		{api.MaxTick, 0, 0}, {api.MaxTick, api.MaxTick - 1, 0}, {api.MaxTick, api.MaxTick, 1},
	} {
		isEpoch(t, conf("s", c.ticks), c.tick, c.epoch)
	}
}

func TestEpochsInARow(t *testing.T) {
	for ticks := 1; ticks <= 13; ticks++ {
		epoch, gone := 0, 0
		for tick := range 200 {
			if gone == ticks {
				epoch, gone = epoch+1, 0
			}
			isEpoch(t, conf("s", ticks), tick, epoch)
			gone++
		}
	}
}

func TestEpochOfWrongTicks(t *testing.T) {
	for _, ticks := range []int{1, 10, api.MaxTick} {
		for _, tick := range wrongTicks {
			noEpoch(t, conf("s", ticks), tick, api.ErrArg)
		}
	}
}

func TestEpochTellsTheSettingsFirst(t *testing.T) {
	for _, tick := range wrongTicks {
		noEpoch(t, conf("", 10), tick, api.ErrCookie)
		noEpoch(t, conf(strings.Repeat("s", 65), 10), tick, api.ErrCookie)
		noEpoch(t, conf("s", 0), tick, api.ErrCookie)
		noEpoch(t, conf("s", -1), tick, api.ErrCookie)
		noEpoch(t, conf("s", api.MaxTick+1), tick, api.ErrCookie)
	}
}

// P9.2

func TestMakeOfVectors(t *testing.T) {
	for _, c := range []struct {
		secret, uniq string
		epoch        int
		cookie       string
	}{
		{"secret", "", 0, "fc7b5098bcdb8bf85b6c1bf8cde1bd21c36a8d81e8917717d9b4eca80ca60205"},
		{"secret", "abcd", 0, "e7bd2a051d393c96b8d8a086a593cbeb026e91a84595d7929b8dfacbbadea130"},
		{"secret", "abcd", 7, "db10236509693110d38eaecf7edf3c6255ba109a51ea67782cba37bb5ff28df9"},
		{strings.Repeat("k", 64), strings.Repeat("u", 1494), 1 << 40, "993a26c1e2e559f3fab5b118125fc30051f1f80b96aaef865661d643736301aa"},
		{"s", strings.Repeat("\x00", 300), 258, "54afc50c6e2e2fabb0b46620cbf262f58f5378f80856d3483aa5ccf0d78b47ca"},
	} {
		got := hex.EncodeToString(made(t, conf(c.secret, 1), mac, []byte(c.uniq), c.epoch))
		if got != c.cookie {
			t.Errorf("epoch %d, uniq of %d: %s, not %s", c.epoch, len(c.uniq), got, c.cookie)
		}
	}
}

func TestMakeOfAnySettings(t *testing.T) {
	r := rand.New(rand.NewSource(92))
	sizes := []int{0, 1, 2, 4, 31, 64, 255, 256, 257, 511, 512, 1000, 1493, 1494}
	for i := range 600 {
		c := api.CookieConf{Secret: more(r, 1+r.Intn(64)), Ticks: 1 + r.Intn(1<<(1+i%40))}
		m, uniq := api.MAC(more(r, 6)), more(r, sizes[i%len(sizes)])
		tick := r.Intn(1<<(1+i%40) + 1)
		if got := made(t, c, m, uniq, tick); !bytes.Equal(got, want(c.Secret, m, uniq, uint64(tick/c.Ticks))) {
			t.Fatalf("Make at %d, each of %d: %x", tick, c.Ticks, got)
		}
	}
}

func TestMakeAtTheEdges(t *testing.T) {
	for _, size := range []int{1, 2, 63, 64} {
		for _, ticks := range []int{1, 2, 10, api.MaxTick - 1, api.MaxTick} {
			for _, tick := range []int{0, 1, 9, 10, api.MaxTick - 1, api.MaxTick} {
				c := api.CookieConf{Secret: drawn(int64(size), size), Ticks: ticks}
				got := made(t, c, mac, []byte("u"), tick)
				if !bytes.Equal(got, want(c.Secret, mac, []byte("u"), uint64(tick/ticks))) {
					t.Errorf("Make at %d, each of %d, secret of %d: %x", tick, ticks, size, got)
				}
			}
		}
	}
}

func TestMakeOfAnyAddress(t *testing.T) {
	for _, m := range []api.MAC{{}, {255, 255, 255, 255, 255, 255}, {1}, {0, 0, 0, 0, 0, 1}, {1, 0, 0, 94, 0, 1}} {
		if got := made(t, conf("s", 10), m, nil, 0); !bytes.Equal(got, want([]byte("s"), m, nil, 0)) {
			t.Errorf("Make of %v: %x", m, got)
		}
	}
}

func TestMakeOfLongUniq(t *testing.T) {
	for _, size := range []int{1495, 1496, 2000, 65535, 65536, 65537, 1 << 20} {
		noCookie(t, conf("s", 10), drawn(2, size), 25, api.ErrLong)
	}
}

func TestMakeTellsErrorsInOrder(t *testing.T) {
	long := drawn(3, api.MaxPPP+1)
	for _, uniq := range [][]byte{nil, []byte("u"), long} {
		for _, tick := range append([]int{0, 25}, wrongTicks...) {
			noCookie(t, conf("", 10), uniq, tick, api.ErrCookie)
			noCookie(t, conf(strings.Repeat("s", 65), 10), uniq, tick, api.ErrCookie)
			for _, ticks := range append([]int{0}, wrongTicks...) {
				noCookie(t, conf("s", ticks), uniq, tick, api.ErrCookie)
			}
		}
		for _, tick := range wrongTicks {
			noCookie(t, conf("s", 1), uniq, tick, api.ErrArg)
			noCookie(t, conf("s", 10), uniq, tick, api.ErrArg)
			noCookie(t, conf("s", api.MaxTick), uniq, tick, api.ErrArg)
		}
	}
	noCookie(t, conf("s", 10), long, 0, api.ErrLong)
	noCookie(t, conf("s", 10), long, api.MaxTick, api.ErrLong)
}

// P9.3

func TestValidByTheEpochs(t *testing.T) {
	uniq := []byte("abcd")
	for _, c := range []struct {
		epoch uint64
		tick  int
		valid bool
	}{
		{0, 0, true}, {0, 9, true}, {0, 10, true}, {0, 19, true}, {0, 20, false}, {0, 29, false},
		{1, 0, false}, {1, 9, false}, {1, 10, true}, {1, 20, true}, {1, 29, true}, {1, 30, false},
		{2, 10, false}, {2, 19, false}, {2, 20, true}, {2, 39, true}, {2, 40, false},
		{math.MaxUint64, 0, false}, {math.MaxUint64, 9, false}, {math.MaxUint64, 10, false},
	} {
		shown := want([]byte("secret"), mac, uniq, c.epoch)
		isValid(t, "by the epochs", conf("secret", 10), mac, uniq, shown, c.tick, c.valid)
	}
}

func TestValidAtTheEdges(t *testing.T) {
	for _, size := range []int{1, 64} {
		for _, ticks := range []int{1, 2, 3, 10, api.MaxTick - 1, api.MaxTick} {
			for _, tick := range []int{0, 1, 2, 3, 9, 10, api.MaxTick - 1, api.MaxTick} {
				for _, uniq := range [][]byte{nil, drawn(4, 255), drawn(4, 256), drawn(4, 1494)} {
					c := api.CookieConf{Secret: drawn(5, size), Ticks: ticks}
					n := tick / ticks
					for back := -1; back <= 3; back++ {
						shown := want(c.Secret, mac, uniq, uint64(n-back))
						isValid(t, "at the edges", c, mac, uniq, shown, tick, back == 0 || back == 1 && n > 0)
					}
				}
			}
		}
	}
}

func TestValidOfNoCookie(t *testing.T) {
	c, uniq := conf("secret", 10), []byte("u")
	now, ahead := made(t, c, mac, uniq, 25), made(t, c, mac, uniq, 15)
	for _, shown := range [][]byte{
		nil, {}, {0}, make([]byte, 31), make([]byte, 32), make([]byte, 33), bytes.Repeat([]byte{255}, 32),
		slices.Concat(now, ahead), slices.Concat(ahead, now), slices.Concat(now, now), slices.Concat(now[:16], ahead[16:]), slices.Concat(ahead[:16], now[16:]),
		slices.Concat(now, []byte{0}), slices.Concat(ahead, []byte{0}), slices.Concat([]byte{0}, now), drawn(6, 1<<16),
	} {
		isValid(t, "no cookie", c, mac, uniq, shown, 25, false)
	}
	for size := range api.CookieBytes {
		isValid(t, "a piece", c, mac, uniq, now[:size], 25, false)
		isValid(t, "a piece", c, mac, uniq, ahead[:size], 25, false)
		isValid(t, "a piece from behind", c, mac, uniq, now[size+1:], 25, false)
	}
}

// P9.4

func TestValidInTime(t *testing.T) {
	uniq := []byte("abcd")
	for ticks := 1; ticks <= 7; ticks++ {
		c := conf("secret", ticks)
		for at := range 4 * ticks {
			shown := made(t, c, mac, uniq, at)
			for tick := range 8 * ticks {
				later := tick/ticks - at/ticks
				isValid(t, "in time", c, mac, uniq, shown, tick, later == 0 || later == 1)
			}
		}
	}
}

func TestValidOfTheExample(t *testing.T) {
	c := conf("secret", 10)
	shown := made(t, c, mac, nil, 9)
	isValid(t, "example 1", c, mac, nil, shown, 19, true)
	isValid(t, "example 1", c, mac, nil, shown, 20, false)
}

func TestValidLateInTime(t *testing.T) {
	r := rand.New(rand.NewSource(94))
	for i := range 400 {
		c := api.CookieConf{Secret: more(r, 1+r.Intn(64)), Ticks: 1 + r.Intn(1<<(1+i%38))}
		m, uniq := api.MAC(more(r, 6)), more(r, r.Intn(40))
		at := r.Intn(api.MaxTick + 1)
		shown := made(t, c, m, uniq, at)
		first := at / c.Ticks * c.Ticks
		for _, tick := range []int{first - c.Ticks, first - 1, first, at, first + c.Ticks - 1, first + c.Ticks, first + 2*c.Ticks - 1, first + 2*c.Ticks, first + 3*c.Ticks} {
			there := tick >= 0 && tick <= api.MaxTick
			isValid(t, "late in time", c, m, uniq, shown, tick, there && tick >= first && tick < first+2*c.Ticks)
		}
	}
}

// P9.5

func TestValidByEachByteOfTheCookie(t *testing.T) {
	c, uniq := conf("secret", 10), []byte("abcd")
	for _, at := range []int{15, 25} {
		shown := made(t, c, mac, uniq, at)
		isValid(t, "all bytes", c, mac, uniq, shown, 25, true)
		for i := range shown {
			for bit := range 8 {
				shown[i] ^= 1 << bit
				isValid(t, "one bit turned", c, mac, uniq, shown, 25, false)
				shown[i] ^= 1 << bit
			}
		}
	}
}

func TestValidByTheAddress(t *testing.T) {
	c, uniq := conf("secret", 10), []byte("abcd")
	for _, at := range []int{15, 25} {
		shown := made(t, c, mac, uniq, at)
		isValid(t, "another client", c, other, uniq, shown, 25, false)
		for bit := range 48 {
			m := mac
			m[bit/8] ^= 1 << (bit % 8)
			isValid(t, "one bit of the address", c, m, uniq, shown, 25, false)
		}
	}
}

func TestValidByTheUniq(t *testing.T) {
	c := conf("secret", 10)
	uniqs := [][]byte{nil, {0}, {0, 0}, []byte("abc"), []byte("abcd"), []byte("abcde"), []byte("abce"), []byte("Abcd"), drawn(7, 255), drawn(7, 256), drawn(7, 257), drawn(7, 1494)}
	for i, uniq := range uniqs {
		for _, at := range []int{15, 25} {
			shown := made(t, c, mac, uniq, at)
			for j, asked := range uniqs {
				isValid(t, "by the uniq", c, mac, asked, shown, 25, i == j)
			}
		}
	}
	// nil and no bytes are the same.
	isValid(t, "no bytes", c, mac, []byte{}, made(t, c, mac, nil, 25), 25, true)
	isValid(t, "nil", c, mac, nil, made(t, c, mac, []byte{}, 15), 25, true)
}

func TestValidByTheSecret(t *testing.T) {
	uniq := []byte("abcd")
	secrets := []string{"secret", "secreT", "secre", "secrets", "Secret", "s", strings.Repeat("s", 64), strings.Repeat("s", 63)}
	for i, secret := range secrets {
		shown := made(t, conf(secret, 10), mac, uniq, 25)
		for j, asked := range secrets {
			isValid(t, "by the secret", conf(asked, 10), mac, uniq, shown, 25, i == j)
		}
	}
}

// TestValidByTheNumberAlone: of the settings a cookie bears the secret and the epoch's number, not how many ticks an epoch has.
func TestValidByTheNumberAlone(t *testing.T) {
	uniq := []byte("abcd")
	shown := made(t, conf("secret", 10), mac, uniq, 25)
	isValid(t, "epoch 2 of 3 ticks each", conf("secret", 3), mac, uniq, shown, 7, true)
	isValid(t, "epoch 3 of 3 ticks each", conf("secret", 3), mac, uniq, shown, 9, true)
	isValid(t, "epoch 8 of 3 ticks each", conf("secret", 3), mac, uniq, shown, 25, false)
}

func TestValidIsOneOfTheTwo(t *testing.T) {
	r := rand.New(rand.NewSource(95))
	for range 300 {
		c := conf("secret", 1+r.Intn(5))
		tick := r.Intn(30)
		uniq := more(r, r.Intn(3))
		shown := made(t, c, api.MAC{2, 0, 0, 0, 0, byte(r.Intn(2))}, more(r, r.Intn(2)), r.Intn(30))
		if r.Intn(2) == 0 {
			shown = made(t, c, mac, uniq, max(0, tick-r.Intn(3*c.Ticks)))
		}
		one := bytes.Equal(shown, made(t, c, mac, uniq, tick))
		if tick >= c.Ticks {
			one = one || bytes.Equal(shown, made(t, c, mac, uniq, tick-c.Ticks))
		}
		isValid(t, "one of the two", c, mac, uniq, shown, tick, one)
	}
}

// P9.6

// roomy is a copy of b with room behind it that is filled, and all of that.
func roomy(b []byte) (piece, whole []byte) {
	whole = append(bytes.Clone(b), bytes.Repeat([]byte{0xee}, 100)...)
	return whole[:len(b)], whole
}

// spoil overwrites b and all the room behind it.
func spoil(b []byte) {
	b = b[:cap(b)]
	for i := range b {
		b[i] ^= 0xff
	}
}

func TestNothingHandedInIsChanged(t *testing.T) {
	for _, size := range []int{0, 1, 300, 1494, 1495} {
		secret, allSecret := roomy(drawn(8, 32))
		uniq, allUniq := roomy(drawn(9, size))
		shown, allShown := roomy(want(secret, mac, uniq, 1))
		keptSecret, keptUniq, keptShown := bytes.Clone(allSecret), bytes.Clone(allUniq), bytes.Clone(allShown)
		c := api.CookieConf{Secret: secret, Ticks: 10}
		cookie.Check(c)
		cookie.Epoch(c, 25)
		cookie.Make(c, mac, uniq, 25)
		cookie.Valid(c, mac, uniq, shown, 25)
		cookie.Valid(c, mac, uniq, shown, 5)
		if !bytes.Equal(allSecret, keptSecret) || !bytes.Equal(allUniq, keptUniq) || !bytes.Equal(allShown, keptShown) {
			t.Errorf("changed, uniq of %d", size)
		}
	}
}

func TestNothingIsKept(t *testing.T) {
	secret, uniq := drawn(10, 32), drawn(11, 40)
	c := api.CookieConf{Secret: bytes.Clone(secret), Ticks: 10}
	given := bytes.Clone(uniq)
	got := made(t, c, mac, given, 25)
	spoil(c.Secret)
	spoil(given)
	if !bytes.Equal(got, want(secret, mac, uniq, 2)) {
		t.Error("the cookie changed with what was handed in")
	}
	// Asked again of what is there now, it is the other cookie.
	if again := made(t, c, mac, given, 25); !bytes.Equal(again, want(c.Secret, mac, given, 2)) {
		t.Error("what was handed in ahead was kept")
	}
}

func TestWhatIsToldIsOnesOwn(t *testing.T) {
	secret, uniq := drawn(12, 64), drawn(13, 40)
	c := api.CookieConf{Secret: secret, Ticks: 10}
	first, second := made(t, c, mac, uniq, 25), made(t, c, mac, uniq, 25)
	spoil(first)
	if !bytes.Equal(second, want(secret, mac, uniq, 2)) {
		t.Error("two cookies share memory")
	}
	if third := made(t, c, mac, uniq, 25); !bytes.Equal(third, second) {
		t.Error("a cookie that was changed is told again")
	}
	if !bytes.Equal(secret, drawn(12, 64)) || !bytes.Equal(uniq, drawn(13, 40)) {
		t.Error("a cookie shares memory with what was handed in")
	}
}
