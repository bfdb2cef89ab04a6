package octet_test

import (
	"bytes"
	"cmp"
	"math"
	"math/rand"
	"strings"
	"testing"
	"time"

	"concierge/api"
	"concierge/octet"
)

// wrongSizes are sizes that no number has.
var wrongSizes = []int{math.MinInt, -9, -8, -1, 0, 9, 10, 16, 64, math.MaxInt}

// edges are the numbers around each size's bounds.
func edges() []uint64 {
	l := []uint64{0, 1, 2, 127, 128, 255, 258, 0x0102030405060708, 0xf0debc9a78563412, math.MaxUint64}
	for size := 1; size < 8; size++ {
		top := uint64(1) << (8 * size)
		l = append(l, top-1, top, top+1, top>>1, top>>1-1)
	}
	return l
}

// fits tells whether size bytes hold all of n.
func fits(n uint64, size int) bool {
	return size == 8 || n>>(8*size) == 0
}

// addresses are some of each kind, and some drawn.
func addresses() []api.MAC {
	l := []api.MAC{
		{}, {0, 0, 0, 0, 0, 1}, {1}, {2}, {3}, {2, 0, 0, 0, 0, 171},
		{254, 255, 255, 255, 255, 255}, {255, 255, 255, 255, 255, 254}, {255, 255, 255, 255, 255, 255},
		{1, 35, 69, 103, 137, 171}, {205, 239, 9, 10, 159, 160},
	}
	r := rand.New(rand.NewSource(1))
	for range 200 {
		var m api.MAC
		r.Read(m[:])
		l = append(l, m)
	}
	return l
}

// P1.1

func TestPut(t *testing.T) {
	cases := []struct {
		n    uint64
		size int
		want string
	}{
		{258, 3, "\x00\x01\x02"},
		{0, 1, "\x00"},
		{255, 1, "\xff"},
		{256, 1, "\x00"},
		{0x12345, 2, "\x23\x45"},
		{0x0102030405060708, 1, "\x08"},
		{0x0102030405060708, 4, "\x05\x06\x07\x08"},
		{0x0102030405060708, 7, "\x02\x03\x04\x05\x06\x07\x08"},
		{0x0102030405060708, 8, "\x01\x02\x03\x04\x05\x06\x07\x08"},
		{math.MaxUint64, 8, "\xff\xff\xff\xff\xff\xff\xff\xff"},
		{1, 8, "\x00\x00\x00\x00\x00\x00\x00\x01"},
	}
	for _, c := range cases {
		if got := octet.Put(c.n, c.size); string(got) != c.want {
			t.Errorf("Put(%#x, %d): %x, not %x", c.n, c.size, got, c.want)
		}
	}
}

func TestPutWrongSizes(t *testing.T) {
	for _, size := range wrongSizes {
		if got := octet.Put(math.MaxUint64, size); len(got) != 0 {
			t.Errorf("Put of size %d: %x", size, got)
		}
	}
}

func TestTake(t *testing.T) {
	cases := []struct {
		b    string
		size int
		n    uint64
		rest string
	}{
		{"\x01\x02\x03", 2, 258, "\x03"},
		{"\x01\x02\x03", 3, 0x010203, ""},
		{"\x01\x02\x03", 1, 1, "\x02\x03"},
		{"\x00", 1, 0, ""},
		{"\xff\xfe", 2, 0xfffe, ""},
		{"\x01\x02\x03\x04\x05\x06\x07\x08", 8, 0x0102030405060708, ""},
		{"\xff\xff\xff\xff\xff\xff\xff\xff\x09", 8, math.MaxUint64, "\x09"},
		{"\x80\x00\x00\x00\x00\x00\x00\x01\x02", 7, 0x80000000000000, "\x01\x02"},
	}
	for _, c := range cases {
		n, rest, ok := octet.Take([]byte(c.b), c.size)
		if n != c.n || string(rest) != c.rest || !ok {
			t.Errorf("Take(%x, %d): %#x, %x, %v", c.b, c.size, n, rest, ok)
		}
	}
}

func TestTakeNothing(t *testing.T) {
	long := bytes.Repeat([]byte{7}, 100)
	for _, size := range wrongSizes {
		for _, b := range [][]byte{nil, {}, {1}, long} {
			if n, rest, ok := octet.Take(b, size); n != 0 || len(rest) != 0 || ok {
				t.Errorf("Take of %d bytes, size %d: %d, %x, %v", len(b), size, n, rest, ok)
			}
		}
	}
	for size := 1; size <= 8; size++ {
		for have := range size {
			if n, rest, ok := octet.Take(long[:have], size); n != 0 || len(rest) != 0 || ok {
				t.Errorf("Take of %d bytes, size %d: %d, %x, %v", have, size, n, rest, ok)
			}
		}
	}
	if n, rest, ok := octet.Take(nil, 1); n != 0 || len(rest) != 0 || ok {
		t.Error("Take of nil:", n, rest, ok)
	}
}

// P1.2

func TestHex(t *testing.T) {
	cases := []struct{ b, want string }{
		{"", ""},
		{"\x00", "00"},
		{"\x00\xab", "00ab"},
		{"\x01\x23\x45\x67\x89\xab\xcd\xef", "0123456789abcdef"},
		{"\xfe\xdc\xba\x98\x76\x54\x32\x10", "fedcba9876543210"},
		{"\xff\x0f\xf0", "ff0ff0"},
	}
	for _, c := range cases {
		if got := octet.Hex([]byte(c.b)); got != c.want {
			t.Errorf("Hex(%x): %q", c.b, got)
		}
		b, e := octet.Unhex(c.want)
		if e != api.OK || string(b) != c.b {
			t.Errorf("Unhex(%q): %x, %d", c.want, b, e)
		}
	}
	if octet.Hex(nil) != "" {
		t.Error("Hex of nil")
	}
}

func TestUnhexDigits(t *testing.T) {
	for c := range 256 {
		good := strings.IndexByte("0123456789abcdef", byte(c))
		first, e1 := octet.Unhex(string([]byte{byte(c), '7'}))
		second, e2 := octet.Unhex(string([]byte{'7', byte(c)}))
		if good < 0 {
			if e1 != api.ErrText || e2 != api.ErrText || len(first) != 0 || len(second) != 0 {
				t.Errorf("digit %#x: %x, %d; %x, %d", c, first, e1, second, e2)
			}
			continue
		}
		if e1 != api.OK || e2 != api.OK || !bytes.Equal(first, []byte{byte(good<<4 | 7)}) || !bytes.Equal(second, []byte{byte(7<<4 | good)}) {
			t.Errorf("digit %#x: %x, %d; %x, %d", c, first, e1, second, e2)
		}
	}
}

func TestUnhexNothing(t *testing.T) {
	for _, s := range []string{
		"0", "000", "0g", "g0", "AB", "aB", "Ab", " 00", "00 ", " 0", "0 ", "0x", "0x00", "00:00", "=00",
		"-1", "+1", "00\n", "\n", "\x00", "\x00\x00", "é", "00é", "\xff\xff", "00000000000g", "g00000000000", "00000g000000",
	} {
		if b, e := octet.Unhex(s); e != api.ErrText || len(b) != 0 {
			t.Errorf("Unhex(%q): %x, %d", s, b, e)
		}
	}
}

// P1.3

func TestText(t *testing.T) {
	cases := []struct {
		m    api.MAC
		want string
	}{
		{api.MAC{2, 0, 0, 0, 0, 171}, "02:00:00:00:00:ab"},
		{api.MAC{}, "00:00:00:00:00:00"},
		{api.MAC{255, 255, 255, 255, 255, 255}, "ff:ff:ff:ff:ff:ff"},
		{api.MAC{1, 35, 69, 103, 137, 171}, "01:23:45:67:89:ab"},
		{api.MAC{205, 239, 9, 10, 159, 160}, "cd:ef:09:0a:9f:a0"},
	}
	for _, c := range cases {
		if got := octet.Text(c.m); got != c.want {
			t.Errorf("Text(%v): %q", c.m, got)
		}
		if m, e := octet.Parse(c.want); m != c.m || e != api.OK {
			t.Errorf("Parse(%q): %v, %d", c.want, m, e)
		}
	}
}

func TestParseNothing(t *testing.T) {
	for _, s := range []string{
		"", ":", "02", "020000000000ab", "0200000000ab", "02:00:00:00:00", "02:00:00:00:00:", "02:00:00:00:00:0",
		"02:00:00:00:00:ab:", ":02:00:00:00:00:ab", "02:00:00:00:00:ab:00", "02:00:00:00:00:ab ", " 02:00:00:00:00:ab",
		"02-00-00-00-00-ab", "02-00:00:00:00:ab", "02:00:00:00:00-ab", "02:00:00:00:00:aB", "02:00:00:00:00:AB", "0A:00:00:00:00:ab",
		"2:0:0:0:0:ab:000000", "02::00:00:00:0:ab", "g2:00:00:00:00:ab", "02:00:00:0g:00:ab", "02:00:00:00:00:a\n", "0:200:00:00:00:ab",
		"02:00:00:00:00:\xc3\xa9", "\x00\x00:\x00\x00:00:00:00:00", strings.Repeat(":", 17), strings.Repeat("0", 17),
	} {
		if m, e := octet.Parse(s); m != (api.MAC{}) || e != api.ErrText {
			t.Errorf("Parse(%q): %v, %d", s, m, e)
		}
	}
}

func TestKind(t *testing.T) {
	cases := []struct {
		m    api.MAC
		want api.MACKind
	}{
		{api.MAC{}, api.Zero},
		{api.MAC{255, 255, 255, 255, 255, 255}, api.Broadcast},
		{api.MAC{1}, api.Group},
		{api.MAC{1, 0, 94, 0, 0, 1}, api.Group},
		{api.MAC{255}, api.Group},
		{api.MAC{255, 255, 255, 255, 255, 254}, api.Group},
		{api.MAC{255, 255, 0, 255, 255, 255}, api.Group},
		{api.MAC{253, 255, 255, 255, 255, 255}, api.Group},
		{api.MAC{2}, api.Single},
		{api.MAC{2, 0, 0, 0, 0, 171}, api.Single},
		{api.MAC{0, 0, 0, 0, 0, 1}, api.Single},
		{api.MAC{0, 255, 255, 255, 255, 255}, api.Single},
		{api.MAC{254, 255, 255, 255, 255, 255}, api.Single},
	}
	for _, c := range cases {
		if got := octet.Kind(c.m); got != c.want {
			t.Errorf("Kind(%v): %d, not %d", c.m, got, c.want)
		}
	}
	for place := range 6 {
		zeros, ones := api.MAC{}, api.MAC{255, 255, 255, 255, 255, 255}
		zeros[place], ones[place] = 128, 127
		if k := octet.Kind(zeros); k != api.Single {
			t.Errorf("Kind(%v): %d", zeros, k)
		}
		if k := octet.Kind(ones); k != api.Group {
			t.Errorf("Kind(%v): %d", ones, k)
		}
	}
	for first := range 256 {
		want := api.Single
		if first%2 == 1 {
			want = api.Group
		}
		if k := octet.Kind(api.MAC{byte(first), 1}); k != want {
			t.Errorf("Kind of first byte %d: %d", first, k)
		}
	}
}

// P1.4

func TestEqual(t *testing.T) {
	cases := []struct {
		a, b []byte
		want bool
	}{
		{nil, nil, true},
		{nil, []byte{}, true},
		{[]byte{}, nil, true},
		{nil, []byte{0}, false},
		{[]byte{0}, nil, false},
		{[]byte{1}, []byte{1}, true},
		{[]byte{1}, []byte{1, 0}, false},
		{[]byte{1, 0}, []byte{1}, false},
		{[]byte{0, 1}, []byte{1}, false},
		{[]byte{1, 2}, []byte{1, 3}, false},
		{[]byte{1, 2}, []byte{2, 1}, false},
		{[]byte{1, 2, 3}, []byte{1, 2, 3}, true},
		{[]byte{255, 0}, []byte{0, 255}, false},
		{[]byte{1, 1}, []byte{3, 3}, false},
	}
	for _, c := range cases {
		if got := octet.Equal(c.a, c.b); got != c.want {
			t.Errorf("Equal(%x, %x): %v", c.a, c.b, got)
		}
	}
	whole := bytes.Repeat([]byte{0x5a}, 32)
	for bit := range 8 * len(whole) {
		other := bytes.Clone(whole)
		other[bit/8] ^= 1 << (bit % 8)
		if octet.Equal(whole, other) || octet.Equal(other, whole) {
			t.Error("one bit is another:", bit)
		}
	}
	if !octet.Equal(whole, bytes.Clone(whole)) || !octet.Equal(whole, whole) {
		t.Error("the same bytes")
	}
}

// shortest is the shortest of some times that Equal takes.
func shortest(a, b []byte) time.Duration {
	best := time.Duration(math.MaxInt64)
	for range 20 {
		begin := time.Now()
		octet.Equal(a, b)
		best = min(best, time.Since(begin))
	}
	return best
}

// A way out at the first byte that is another one is some thousand times as short as going through all: the bound of 8 lies far from both.
func TestEqualLooksAtAll(t *testing.T) {
	const size = 1 << 20
	a := make([]byte, size)
	first, last := make([]byte, size), make([]byte, size)
	first[0], last[size-1] = 1, 1
	whole, atFirst, atLast := shortest(a, make([]byte, size)), shortest(a, first), shortest(a, last)
	if 8*atFirst < whole || 8*atLast < whole {
		t.Error("whole, parted at the first byte, at the last one:", whole, atFirst, atLast)
	}
}

// P1.5

func TestNumbersThereAndBack(t *testing.T) {
	r := rand.New(rand.NewSource(2))
	numbers := edges()
	for range 500 {
		numbers = append(numbers, r.Uint64()>>r.Intn(64))
	}
	for _, n := range numbers {
		for size := 1; size <= 8; size++ {
			if !fits(n, size) {
				continue
			}
			for _, behind := range []string{"", "\x00", "\xff\x01", "a longer row of bytes"} {
				got, rest, ok := octet.Take(append(octet.Put(n, size), behind...), size)
				if got != n || string(rest) != behind || !ok {
					t.Errorf("%#x in %d bytes: %#x, %q, %v", n, size, got, rest, ok)
				}
			}
		}
	}
}

func TestBytesThereAndBack(t *testing.T) {
	r := rand.New(rand.NewSource(3))
	for size := range 300 {
		b := make([]byte, size)
		r.Read(b)
		s := octet.Hex(b)
		got, e := octet.Unhex(s)
		if e != api.OK || !bytes.Equal(got, b) || len(s) != 2*size {
			t.Errorf("%x: %q, %x, %d", b, s, got, e)
		}
	}
}

func TestAddressesThereAndBack(t *testing.T) {
	for _, m := range addresses() {
		if got, e := octet.Parse(octet.Text(m)); got != m || e != api.OK {
			t.Errorf("%v: %v, %d", m, got, e)
		}
	}
}

// What is taken is the text of what is told: at each place of good texts each byte is tried.
func TestTakenIsItsText(t *testing.T) {
	for _, good := range []string{"0123456789abcdef", "00", "02:00:00:00:00:ab", "ff:ff:ff:ff:ff:ff"} {
		for place := range len(good) {
			for c := range 256 {
				s := good[:place] + string([]byte{byte(c)}) + good[place+1:]
				if b, e := octet.Unhex(s); e == api.OK && octet.Hex(b) != s {
					t.Errorf("Unhex(%q): %x", s, b)
				}
				if m, e := octet.Parse(s); e == api.OK && octet.Text(m) != s {
					t.Errorf("Parse(%q): %v", s, m)
				}
			}
		}
	}
}

// P1.6

func TestOrder(t *testing.T) {
	numbers := edges()
	for size := 1; size <= 8; size++ {
		for _, a := range numbers {
			for _, b := range numbers {
				if !fits(a, size) || !fits(b, size) {
					continue
				}
				if bytes.Compare(octet.Put(a, size), octet.Put(b, size)) != cmp.Compare(a, b) {
					t.Errorf("%#x and %#x in %d bytes", a, b, size)
				}
			}
		}
	}
}

// P1.7

// spoil changes all bytes that b can reach.
func spoil(b []byte) {
	b = b[:cap(b)]
	for i := range b {
		b[i] ^= 0xff
	}
}

func TestRestIsOnesOwn(t *testing.T) {
	in := []byte{1, 2, 3, 4, 5}
	_, rest, _ := octet.Take(in, 2)
	spoil(rest)
	if string(in) != "\x01\x02\x03\x04\x05" {
		t.Errorf("what was handed in: %x", in)
	}
	_, rest, _ = octet.Take(in, 2)
	spoil(in)
	if string(rest) != "\x03\x04\x05" {
		t.Errorf("what was told: %x", rest)
	}
	in = append(make([]byte, 0, 64), 1, 2)
	_, rest, _ = octet.Take(in, 2)
	_ = append(rest, 9)
	if in[:3][2] != 0 {
		t.Error("what stands behind what was handed in")
	}
}

func TestAnswersAreApart(t *testing.T) {
	first := octet.Put(258, 3)
	spoil(first)
	if string(octet.Put(258, 3)) != "\x00\x01\x02" {
		t.Error("Put")
	}
	told, _ := octet.Unhex("00ab")
	spoil(told)
	if again, _ := octet.Unhex("00ab"); string(again) != "\x00\xab" {
		t.Error("Unhex")
	}
	in := []byte{0, 171}
	s := octet.Hex(in)
	spoil(in)
	if s != "00ab" {
		t.Error("Hex:", s)
	}
}

func TestHandedInIsNotChanged(t *testing.T) {
	const was = "\x01\x02\x03\x04\x05\x06\x07\x08\x09"
	in, other := []byte(was), []byte(was)
	for size := 1; size <= 8; size++ {
		octet.Take(in, size)
	}
	octet.Hex(in)
	octet.Equal(in, other)
	if string(in) != was || string(other) != was {
		t.Errorf("%x, %x", in, other)
	}
}
