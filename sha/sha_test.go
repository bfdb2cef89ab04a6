package sha_test

import (
	"bytes"
	"crypto/sha256"
	"encoding"
	"encoding/binary"
	"encoding/hex"
	"math"
	"math/big"
	"math/rand"
	"strings"
	"testing"

	"concierge/api"
	"concierge/sha"
)

// vectors are texts and their sums, those of FIPS 180-4's examples among them.
var vectors = []struct{ text, sum string }{
	{"", "e3b0c44298fc1c149afbf4c8996fb92427ae41e4649b934ca495991b7852b855"},
	{"abc", "ba7816bf8f01cfea414140de5dae2223b00361a396177a9cb410ff61f20015ad"},
	{
		"abcdbcdecdefdefgefghfghighijhijkijkljklmklmnlmnomnopnopq",
		"248d6a61d20638b8e5c026930c3e6039a33ce45964ff2167f6ecedd419db06c1",
	},
	{
		"abcdefghbcdefghicdefghijdefghijkefghijklfghijklmghijklmnhijklmnoijklmnopjklmnopqklmnopqrlmnopqrsmnopqrstnopqrstu",
		"cf5b16a778af8380036ce59e7b0492370b249b11e8f07a51afac45037afee9d1",
	},
	{strings.Repeat("a", 1000000), "cdc76e5c9914fb9281a1c7e284d73e67f1809a48a497200e046d39ccc7112cd0"},
}

// drawn are so many bytes, the same for the same seed.
func drawn(seed int64, size int) []byte {
	b := make([]byte, size)
	rand.New(rand.NewSource(seed)).Read(b)
	return b
}

// behind is what stands behind a text of n bytes, made as the words say it: zero by zero, in whole numbers without bound.
func behind(n int) []byte {
	whole := big.NewInt(int64(max(n, 0)))
	b := []byte{128}
	for {
		all := new(big.Int).Add(whole, big.NewInt(int64(len(b)+8)))
		if new(big.Int).Mod(all, big.NewInt(64)).Sign() == 0 {
			break
		}
		b = append(b, 0)
	}
	length := new(big.Int).Mod(new(big.Int).Mul(whole, big.NewInt(8)), new(big.Int).Lsh(big.NewInt(1), 64))
	return append(b, length.FillBytes(make([]byte, 8))...)
}

// stepped is what the library's sum makes of a state by one block.
func stepped(t *testing.T, s [8]uint32, block [64]byte) [8]uint32 {
	t.Helper()
	kept := []byte("sha\x03")
	for _, w := range s {
		kept = binary.BigEndian.AppendUint32(kept, w)
	}
	kept = append(kept, make([]byte, 64+8)...)
	h := sha256.New()
	if err := h.(encoding.BinaryUnmarshaler).UnmarshalBinary(kept); err != nil {
		t.Fatal(err)
	}
	h.Write(block[:])
	told, err := h.(encoding.BinaryMarshaler).MarshalBinary()
	if err != nil {
		t.Fatal(err)
	}
	var out [8]uint32
	for i := range out {
		out[i] = binary.BigEndian.Uint32(told[4+4*i:])
	}
	return out
}

// row is Step behind Step, from the state at first, over all whole blocks of b, as bytes.
func row(b []byte) [32]byte {
	s := sha.Begin()
	for len(b) >= 64 {
		s = sha.Step(s, [64]byte(b[:64]))
		b = b[64:]
	}
	var out [32]byte
	for i, w := range s {
		binary.BigEndian.PutUint32(out[4*i:], w)
	}
	return out
}

// add lays b behind the text of h, and fails where that is refused.
func add(t *testing.T, h *sha.Hash, b []byte) {
	t.Helper()
	if e := h.Add(b); e != api.OK {
		t.Fatalf("Add of %d bytes: %d", len(b), e)
	}
}

// holds fails where h doesn't tell the length and the sum of the text b, twice.
func holds(t *testing.T, h *sha.Hash, b []byte) {
	t.Helper()
	want := sha256.Sum256(b)
	for range 2 {
		if got := h.Sum(); got != want {
			t.Fatalf("Sum of %d bytes: %x, not %x", len(b), got, want)
		}
		if h.Len() != len(b) {
			t.Fatalf("Len: %d, not %d", h.Len(), len(b))
		}
	}
}

// P2.1

func TestBegin(t *testing.T) {
	want := [8]uint32{0x6a09e667, 0xbb67ae85, 0x3c6ef372, 0xa54ff53a, 0x510e527f, 0x9b05688c, 0x1f83d9ab, 0x5be0cd19}
	if sha.Begin() != want {
		t.Errorf("%x", sha.Begin())
	}
	// FIPS 180-4 takes them from square roots: the first 32 bits behind the point.
	for i, prime := range []int64{2, 3, 5, 7, 11, 13, 17, 19} {
		root := new(big.Int).Sqrt(new(big.Int).Lsh(big.NewInt(prime), 64))
		if uint32(root.Uint64()) != sha.Begin()[i] {
			t.Errorf("word %d: %x", i, sha.Begin()[i])
		}
	}
}

func TestBeginIsOnesOwn(t *testing.T) {
	s := sha.Begin()
	clear(s[:])
	if s == sha.Begin() {
		t.Error("what was told is kept")
	}
}

func TestStepOfExamples(t *testing.T) {
	block := func(text string) [64]byte { return [64]byte(append([]byte(text), behind(len(text))...)) }
	abc := sha.Step(sha.Begin(), block("abc"))
	if want := [8]uint32{0xba7816bf, 0x8f01cfea, 0x414140de, 0x5dae2223, 0xb00361a3, 0x96177a9c, 0xb410ff61, 0xf20015ad}; abc != want {
		t.Errorf("abc: %x", abc)
	}
	long := vectors[2].text + string(behind(len(vectors[2].text)))
	first := sha.Step(sha.Begin(), [64]byte([]byte(long[:64])))
	if want := [8]uint32{0x85e655d6, 0x417a1795, 0x3363376a, 0x624cde5c, 0x76e09589, 0xcac5f811, 0xcc4b32c1, 0xf20e533a}; first != want {
		t.Errorf("the first of two blocks: %x", first)
	}
	second := sha.Step(first, [64]byte([]byte(long[64:])))
	if want := [8]uint32{0x248d6a61, 0xd20638b8, 0xe5c02693, 0x0c3e6039, 0xa33ce459, 0x64ff2167, 0xf6ecedd4, 0x19db06c1}; second != want {
		t.Errorf("the second of two blocks: %x", second)
	}
}

// From any state, not from those alone to which texts lead.
func TestStepOfAnyState(t *testing.T) {
	r := rand.New(rand.NewSource(1))
	full := [8]uint32{}
	for i := range full {
		full[i] = math.MaxUint32
	}
	states := [][8]uint32{{}, full, sha.Begin()}
	for range 100 {
		var s [8]uint32
		for i := range s {
			s[i] = r.Uint32()
		}
		states = append(states, s)
	}
	blocks := [][64]byte{{}, [64]byte(bytes.Repeat([]byte{255}, 64))}
	for range 20 {
		var b [64]byte
		r.Read(b[:])
		blocks = append(blocks, b)
	}
	for _, s := range states {
		for _, b := range blocks {
			if got, want := sha.Step(s, b), stepped(t, s, b); got != want {
				t.Fatalf("Step(%x, %x): %x, not %x", s, b, got, want)
			}
		}
	}
}

// Each bit of a block and of a state counts.
func TestStepOfSingleBits(t *testing.T) {
	for i := range 8 * 64 {
		var b [64]byte
		b[i/8] = 1 << (i % 8)
		if got, want := sha.Step(sha.Begin(), b), stepped(t, sha.Begin(), b); got != want {
			t.Errorf("bit %d of the block: %x, not %x", i, got, want)
		}
	}
	for i := range 8 * 32 {
		var s [8]uint32
		s[i/32] = 1 << (i % 32)
		if got, want := sha.Step(s, [64]byte{}), stepped(t, s, [64]byte{}); got != want {
			t.Errorf("bit %d of the state: %x, not %x", i, got, want)
		}
	}
}

func TestStepChangesNothing(t *testing.T) {
	s, b := sha.Begin(), [64]byte(drawn(2, 64))
	kept, block := s, b
	first := sha.Step(s, b)
	if s != kept || b != block {
		t.Error("what was handed in is changed")
	}
	if sha.Step(s, b) != first {
		t.Error("the same block makes another state")
	}
}

func TestBehind(t *testing.T) {
	sizes := []struct{ n, size int }{
		{0, 64}, {1, 63}, {3, 61}, {54, 10}, {55, 9}, {56, 72}, {57, 71}, {62, 66}, {63, 65}, {64, 64}, {119, 9}, {120, 72}, {128, 64},
		{math.MaxInt, 65}, {-1, 64}, {math.MinInt, 64},
	}
	for _, c := range sizes {
		if got := sha.Behind(c.n); len(got) != c.size {
			t.Errorf("Behind(%d) has %d bytes, not %d", c.n, len(got), c.size)
		}
	}
	if got, want := sha.Behind(55), "\x80\x00\x00\x00\x00\x00\x00\x01\xb8"; string(got) != want {
		t.Errorf("Behind(55): %x", got)
	}
	numbers := []int{math.MaxInt, math.MaxInt - 1, math.MaxInt - 7, math.MaxInt - 8, math.MaxInt - 63, math.MaxInt - 64}
	for n := range 300 {
		numbers = append(numbers, n)
	}
	for shift := 8; shift < 63; shift++ {
		numbers = append(numbers, 1<<shift-1, 1<<shift, 1<<shift+1, 1<<shift+55, 1<<shift+56)
	}
	for _, n := range numbers {
		if got, want := sha.Behind(n), behind(n); !bytes.Equal(got, want) {
			t.Errorf("Behind(%d): %x, not %x", n, got, want)
		}
	}
}

func TestBehindBelowZero(t *testing.T) {
	for _, n := range []int{-1, -8, -9, -55, -56, -63, -64, -65, math.MinInt + 1, math.MinInt} {
		if got, want := sha.Behind(n), sha.Behind(0); !bytes.Equal(got, want) {
			t.Errorf("Behind(%d): %x", n, got)
		}
	}
}

func TestBehindIsOnesOwn(t *testing.T) {
	first := sha.Behind(3)
	first = first[:cap(first)]
	for i := range first {
		first[i] = 7
	}
	if got := sha.Behind(3); !bytes.Equal(got, behind(3)) {
		t.Errorf("%x", got)
	}
}

// P2.2

func TestSumOfVectors(t *testing.T) {
	for _, c := range vectors {
		if got := sha.Sum([]byte(c.text)); hex.EncodeToString(got[:]) != c.sum {
			t.Errorf("%d bytes: %x, not %s", len(c.text), got, c.sum)
		}
	}
	if sha.Sum(nil) != sha.Sum([]byte{}) {
		t.Error("nil and an empty text")
	}
}

// All lengths around the edges of one, two and three blocks, and some great ones.
func TestSumOfLengths(t *testing.T) {
	b := drawn(3, 1<<20+77)
	sizes := []int{1023, 1024, 1025, 4095, 65535, 65536, 1 << 20, len(b)}
	for size := range 300 {
		sizes = append(sizes, size)
	}
	for _, size := range sizes {
		if got, want := sha.Sum(b[:size]), sha256.Sum256(b[:size]); got != want {
			t.Errorf("%d bytes: %x, not %x", size, got, want)
		}
	}
}

func TestSumOfLikeBytes(t *testing.T) {
	for _, x := range []byte{0, 1, 127, 128, 255} {
		for size := range 130 {
			b := bytes.Repeat([]byte{x}, size)
			if got, want := sha.Sum(b), sha256.Sum256(b); got != want {
				t.Errorf("%d bytes %d: %x, not %x", size, x, got, want)
			}
		}
	}
}

func TestSumChangesNothing(t *testing.T) {
	for _, size := range []int{0, 1, 55, 56, 63, 64, 65, 200} {
		all := drawn(4, size+100)
		kept := bytes.Clone(all)
		first := sha.Sum(all[:size])
		if !bytes.Equal(all, kept) {
			t.Errorf("%d bytes: they, or what stands behind them, are changed", size)
		}
		if sha.Sum(all[:size]) != first {
			t.Errorf("%d bytes: the sum is another one the second time", size)
		}
	}
}

// P2.3

func TestHashOfNothing(t *testing.T) {
	h := sha.New()
	holds(t, h, nil)
	add(t, h, nil)
	add(t, h, []byte{})
	holds(t, h, nil)
	if got := h.Sum(); hex.EncodeToString(got[:]) != vectors[0].sum {
		t.Errorf("%x", got)
	}
}

func TestHashGoesOn(t *testing.T) {
	h := sha.New()
	var text []byte
	for _, part := range []string{"a", "", "bc", "d", strings.Repeat("e", 60), "f", strings.Repeat("g", 64), "h", strings.Repeat("i", 300)} {
		add(t, h, []byte(part))
		text = append(text, part...)
		holds(t, h, text)
	}
}

func TestHashOfVectors(t *testing.T) {
	for _, c := range vectors {
		h := sha.New()
		add(t, h, []byte(c.text))
		if got := h.Sum(); hex.EncodeToString(got[:]) != c.sum || h.Len() != len(c.text) {
			t.Errorf("%d bytes: %x, Len %d", len(c.text), got, h.Len())
		}
	}
}

func TestHashesAreApart(t *testing.T) {
	a, b := sha.New(), sha.New()
	add(t, a, []byte("one text"))
	holds(t, b, nil)
	add(t, b, []byte("another one"))
	holds(t, a, []byte("one text"))
	holds(t, b, []byte("another one"))
}

func TestHashThatNobodyMade(t *testing.T) {
	for name, h := range map[string]*sha.Hash{"nil": nil, "zero": {}} {
		for _, b := range [][]byte{nil, {}, {1}, drawn(5, 64), drawn(5, 200)} {
			if e := h.Add(b); e != api.ErrNil {
				t.Errorf("%s: Add of %d bytes: %d", name, len(b), e)
			}
		}
		if h.Sum() != [32]byte{} || h.Len() != 0 || h.Fork() != nil {
			t.Errorf("%s: %x, %d, %v", name, h.Sum(), h.Len(), h.Fork())
		}
	}
}

func TestAddKeepsNothing(t *testing.T) {
	for _, size := range []int{1, 63, 64, 65, 130} {
		h := sha.New()
		b := drawn(6, size)
		kept := bytes.Clone(b)
		add(t, h, b)
		if !bytes.Equal(b, kept) {
			t.Errorf("%d bytes are changed", size)
		}
		clear(b)
		holds(t, h, kept)
	}
}

func TestSumIsOnesOwn(t *testing.T) {
	h := sha.New()
	add(t, h, []byte("abc"))
	told := h.Sum()
	clear(told[:])
	holds(t, h, []byte("abc"))
}

// P2.4

func TestBlocks(t *testing.T) {
	b := drawn(7, 1024)
	for size := range len(b) {
		whole := append(bytes.Clone(b[:size]), sha.Behind(size)...)
		if len(whole)%64 != 0 {
			t.Fatalf("%d bytes and what stands behind them are no whole blocks: %d", size, len(whole))
		}
		if got := row(whole); got != sha.Sum(b[:size]) {
			t.Errorf("%d bytes: %x, not %x", size, got, sha.Sum(b[:size]))
		}
	}
}

// P2.5

// Each cut in two, and each in three of a shorter text.
func TestCuts(t *testing.T) {
	b := drawn(8, 200)
	whole := sha.Sum(b)
	for i := range len(b) + 1 {
		h := sha.New()
		add(t, h, b[:i])
		add(t, h, b[i:])
		if h.Sum() != whole || h.Len() != len(b) {
			t.Fatalf("cut at %d: %x", i, h.Sum())
		}
	}
	b = b[:140]
	whole = sha.Sum(b)
	for i := range len(b) + 1 {
		for j := i; j <= len(b); j++ {
			h := sha.New()
			add(t, h, b[:i])
			add(t, h, b[i:j])
			add(t, h, b[j:])
			if h.Sum() != whole || h.Len() != len(b) {
				t.Fatalf("cuts at %d and %d: %x", i, j, h.Sum())
			}
		}
	}
}

func TestParts(t *testing.T) {
	b := drawn(9, 1000)
	whole := sha.Sum(b)
	for _, size := range []int{1, 2, 3, 7, 31, 32, 33, 55, 56, 57, 63, 64, 65, 127, 128, 129, 999} {
		h := sha.New()
		for rest := b; len(rest) > 0; rest = rest[min(size, len(rest)):] {
			add(t, h, rest[:min(size, len(rest))])
		}
		if h.Sum() != whole || h.Len() != len(b) {
			t.Errorf("parts of %d bytes: %x, not %x", size, h.Sum(), whole)
		}
	}
}

func TestPartsDrawn(t *testing.T) {
	r := rand.New(rand.NewSource(10))
	for range 300 {
		b := make([]byte, r.Intn(700))
		r.Read(b)
		h := sha.New()
		for rest := b; len(rest) > 0; {
			n := r.Intn(min(len(rest), 150) + 1)
			add(t, h, rest[:n])
			rest = rest[n:]
			if r.Intn(4) == 0 {
				h.Sum()
			}
		}
		holds(t, h, b)
	}
}

// P2.6

// A fork at each place of two blocks; both go on, each by its own bytes.
func TestForkGoesItsOwnWay(t *testing.T) {
	for size := range 130 {
		begin := drawn(11, size)
		for _, more := range []int{0, 1, 10, 63, 64, 65, 100} {
			h := sha.New()
			add(t, h, begin)
			f := h.Fork()
			holds(t, f, begin)
			mine, its := bytes.Repeat([]byte{1}, more), bytes.Repeat([]byte{2}, more+1)
			add(t, h, mine)
			holds(t, f, begin)
			add(t, f, its)
			holds(t, h, append(bytes.Clone(begin), mine...))
			holds(t, f, append(bytes.Clone(begin), its...))
		}
	}
}

// Byte by byte in turns, so that a row of bytes that both share would show.
func TestForksInTurns(t *testing.T) {
	h := sha.New()
	add(t, h, []byte("abc"))
	f := h.Fork()
	g := f.Fork()
	mine, its, third := []byte("abc"), []byte("abc"), []byte("abc")
	for i := range 150 {
		add(t, h, []byte{byte(i)})
		add(t, f, []byte{byte(i + 1)})
		add(t, g, []byte{byte(i + 2), 9})
		mine, its, third = append(mine, byte(i)), append(its, byte(i+1)), append(third, byte(i+2), 9)
	}
	holds(t, h, mine)
	holds(t, f, its)
	holds(t, g, third)
}

func TestForkOfNothing(t *testing.T) {
	h := sha.New()
	f := h.Fork()
	if f == nil || f == h {
		t.Fatal("no other one")
	}
	add(t, f, []byte("abc"))
	holds(t, h, nil)
	holds(t, f, []byte("abc"))
}
