package hmac_test

import (
	"bytes"
	libhmac "crypto/hmac"
	"crypto/sha256"
	"encoding/hex"
	"math"
	"math/big"
	"math/rand"
	"strings"
	"testing"

	"concierge/hmac"
	"concierge/sha"
)

// vectors are keys, messages and their sums: RFC 4231's, and those of nothing.
var vectors = []struct{ key, msg, sum string }{
	{"", "", "b613679a0814d9ec772f95d778c35fc5ff1697c493715653c6c712144292c5ad"},
	{"Jefe", "what do ya want for nothing?", "5bdcc146bf60754e6a042426089575c75a003f089d2739839dec58b964ec3843"},
	{strings.Repeat("\x0b", 20), "Hi There", "b0344c61d8db38535ca8afceaf0bf12b881dc200c9833da726e9376c2e32cff7"},
	{strings.Repeat("\xaa", 20), strings.Repeat("\xdd", 50), "773ea91e36800e46854db8ebd09181a72959098b3ef8c122d9635514ced565fe"},
	{
		"\x01\x02\x03\x04\x05\x06\x07\x08\x09\x0a\x0b\x0c\x0d\x0e\x0f\x10\x11\x12\x13\x14\x15\x16\x17\x18\x19",
		strings.Repeat("\xcd", 50),
		"82558a389a443c0ea4cc819899f2083a85f0faa3e578f8077a2e3ff46729665b",
	},
	{
		strings.Repeat("\xaa", 131),
		"Test Using Larger Than Block-Size Key - Hash Key First",
		"60e431591ee0b67f0d8a26aacbf5b77f8e0bc6213728c5140546040f0ee37f54",
	},
	{
		strings.Repeat("\xaa", 131),
		"This is a test using a larger than block-size key and a larger than block-size data. The key needs to be hashed before being used by the HMAC algorithm.",
		"9b09ffa71b942fcb27635fbcd5b0e944bfdc63644f0713938a7f51535c3a35e2",
	},
}

// keySizes are those around a sum's 32 bytes and around the one and the two blocks.
var keySizes = []int{0, 1, 2, 4, 31, 32, 33, 62, 63, 64, 65, 66, 127, 128, 129, 200, 1000}

// drawn are so many bytes, the same for the same seed.
func drawn(seed int64, size int) []byte {
	b := make([]byte, size)
	rand.New(rand.NewSource(seed)).Read(b)
	return b
}

// want is the library's HMAC.
func want(key, msg []byte) [32]byte {
	h := libhmac.New(sha256.New, key)
	h.Write(msg)
	return [32]byte(h.Sum(nil))
}

// holds fails where m doesn't tell the length of the message and its sum under the key, twice.
func holds(t *testing.T, m *hmac.Mac, key, msg []byte) {
	t.Helper()
	for range 2 {
		if got := m.Sum(); got != want(key, msg) {
			t.Fatalf("Sum of %d bytes, key of %d: %x, not %x", len(msg), len(key), got, want(key, msg))
		}
		if m.Len() != len(msg) {
			t.Fatalf("Len: %d, not %d", m.Len(), len(msg))
		}
	}
}

// roomy is a copy of b with room behind it that is filled, and all of that.
func roomy(b []byte) (piece, all []byte) {
	all = append(bytes.Clone(b), bytes.Repeat([]byte{0xee}, 100)...)
	return all[:len(b)], all
}

// P3.1

func TestSumOfVectors(t *testing.T) {
	for _, c := range vectors {
		if got := hmac.Sum([]byte(c.key), []byte(c.msg)); hex.EncodeToString(got[:]) != c.sum {
			t.Errorf("key of %d bytes, %q: %x, not %s", len(c.key), c.msg, got, c.sum)
		}
	}
}

// By the words, out of sums alone.
func TestSumIsTwoSums(t *testing.T) {
	msg := drawn(1, 77)
	for _, size := range keySizes {
		key := drawn(2, size)
		block := bytes.Clone(key)
		if size > 64 {
			sum := sha.Sum(key)
			block = sum[:]
		}
		block = append(block, make([]byte, 64-len(block))...)
		turned := func(by byte) []byte {
			b := make([]byte, 64)
			for i, x := range block {
				b[i] = x ^ by
			}
			return b
		}
		inner := sha.Sum(append(turned(54), msg...))
		if got := hmac.Sum(key, msg); got != sha.Sum(append(turned(92), inner[:]...)) {
			t.Errorf("key of %d bytes: %x", size, got)
		}
	}
}

func TestSumOfSizes(t *testing.T) {
	keys, msgs := drawn(3, 300), drawn(4, 300)
	for size := range 300 {
		for _, other := range []int{0, 1, 20, 55, 56, 63, 64, 65, 120, 299} {
			if got := hmac.Sum(keys[:size], msgs[:other]); got != want(keys[:size], msgs[:other]) {
				t.Errorf("key of %d bytes, message of %d: %x", size, other, got)
			}
			if got := hmac.Sum(keys[:other], msgs[:size]); got != want(keys[:other], msgs[:size]) {
				t.Errorf("key of %d bytes, message of %d: %x", other, size, got)
			}
		}
	}
	great := drawn(5, 1<<20+3)
	if hmac.Sum(great, great[:7]) != want(great, great[:7]) || hmac.Sum(great[:7], great) != want(great[:7], great) {
		t.Error("a great key, or a great message")
	}
}

func TestSumOfNothing(t *testing.T) {
	whole := hmac.Sum(nil, nil)
	for _, key := range [][]byte{nil, {}} {
		for _, msg := range [][]byte{nil, {}} {
			if hmac.Sum(key, msg) != whole {
				t.Error("nil and empty ones are not the same")
			}
		}
	}
	if hmac.Sum(nil, []byte{1}) == hmac.Sum([]byte{1}, nil) {
		t.Error("the key and the message are the same thing")
	}
}

// Each bit of a key and of a message counts.
func TestSumOfSingleBits(t *testing.T) {
	for _, size := range []int{1, 64, 65} {
		b := make([]byte, size)
		for i := range 8 * size {
			b[i/8] ^= 1 << (i % 8)
			if got := hmac.Sum(b, []byte("m")); got != want(b, []byte("m")) || got == hmac.Sum(make([]byte, size), []byte("m")) {
				t.Errorf("bit %d of a key of %d bytes: %x", i, size, got)
			}
			if got := hmac.Sum([]byte("k"), b); got != want([]byte("k"), b) || got == hmac.Sum([]byte("k"), make([]byte, size)) {
				t.Errorf("bit %d of a message of %d bytes: %x", i, size, got)
			}
			b[i/8] ^= 1 << (i % 8)
		}
	}
}

func TestCheckOfVectors(t *testing.T) {
	for _, c := range vectors {
		mac, err := hex.DecodeString(c.sum)
		if err != nil {
			t.Fatal(err)
		}
		if !hmac.Check([]byte(c.key), []byte(c.msg), mac) {
			t.Errorf("key of %d bytes, %q: its sum is refused", len(c.key), c.msg)
		}
		if hmac.Check([]byte(c.key+"x"), []byte(c.msg), mac) || hmac.Check([]byte(c.key), []byte(c.msg+"x"), mac) {
			t.Errorf("key of %d bytes, %q: the sum is taken for another key or message", len(c.key), c.msg)
		}
	}
}

func TestCheckOfWrongOnes(t *testing.T) {
	key, msg := []byte("Jefe"), []byte("what do ya want for nothing?")
	plain := sha.Sum(msg)
	for name, mac := range map[string][]byte{
		"nil": nil, "nothing": {}, "zeros": make([]byte, 32), "the message": msg, "its plain sum": plain[:],
		"its digits": []byte(vectors[1].sum),
	} {
		if hmac.Check(key, msg, mac) {
			t.Errorf("%s is taken", name)
		}
		if hmac.Check(nil, nil, mac) {
			t.Errorf("%s is taken for nothing", name)
		}
	}
}

// P3.2

// derived is what Derive must tell, its message made in whole numbers without bound.
func derived(secret []byte, label string, n int) [32]byte {
	whole := big.NewInt(int64(n))
	if n < 0 {
		whole.Add(whole, new(big.Int).Lsh(big.NewInt(1), 64))
	}
	msg := append([]byte(label), 0)
	return want(secret, append(msg, whole.FillBytes(make([]byte, 8))...))
}

func TestDerive(t *testing.T) {
	if got, sum := hmac.Derive([]byte("s"), "epoch", 258), want([]byte("s"), []byte("epoch\x00\x00\x00\x00\x00\x00\x00\x01\x02")); string(got) != string(sum[:]) {
		t.Errorf("%x, not %x", got, sum)
	}
	if got, sum := hmac.Derive([]byte("s"), "epoch", -1), want([]byte("s"), []byte("epoch\x00\xff\xff\xff\xff\xff\xff\xff\xff")); string(got) != string(sum[:]) {
		t.Errorf("-1: %x, not %x", got, sum)
	}
	numbers := []int{
		0, 1, 2, 255, 256, 257, 65535, 65536, math.MaxInt32, math.MaxInt32 + 1, math.MaxUint32, math.MaxUint32 + 1,
		1 << 40, math.MaxInt - 1, math.MaxInt, -1, -2, -256, math.MinInt32, math.MinInt + 1, math.MinInt,
	}
	labels := []string{"", "epoch", "Epoch", "\x00", "epoch\x00", "\xff\xfe", "é", strings.Repeat("l", 200)}
	for _, n := range numbers {
		for _, label := range labels {
			for _, size := range []int{0, 1, 32, 64, 65} {
				secret := drawn(6, size)
				if got, sum := hmac.Derive(secret, label, n), derived(secret, label, n); !bytes.Equal(got, sum[:]) {
					t.Errorf("Derive(%x, %q, %d): %x, not %x", secret, label, n, got, sum)
				}
			}
		}
	}
}

func TestDeriveOfNothing(t *testing.T) {
	sum := derived(nil, "", 0)
	if got := hmac.Derive(nil, "", 0); !bytes.Equal(got, sum[:]) || !bytes.Equal(hmac.Derive([]byte{}, "", 0), got) {
		t.Errorf("%x, not %x", got, sum)
	}
}

// Secrets, labels and numbers that differ have keys that differ.
func TestDeriveApart(t *testing.T) {
	seen := map[string]bool{}
	for _, secret := range []string{"a", "b", "ab"} {
		for _, label := range []string{"", "a", "b", "a\x00", "ab"} {
			for n := -20; n < 300; n++ {
				key := string(hmac.Derive([]byte(secret), label, n))
				if len(key) != 32 || seen[key] {
					t.Fatalf("%q, %q, %d: %x", secret, label, n, key)
				}
				seen[key] = true
			}
		}
	}
}

// P3.3

func TestMacOfNothing(t *testing.T) {
	for _, size := range keySizes {
		key := drawn(7, size)
		m := hmac.New(key)
		if m == nil {
			t.Fatal("nil")
		}
		holds(t, m, key, nil)
		m.Add(nil)
		m.Add([]byte{})
		holds(t, m, key, nil)
	}
	holds(t, hmac.New(nil), nil, nil)
}

func TestMacOfVectors(t *testing.T) {
	for _, c := range vectors {
		m := hmac.New([]byte(c.key))
		m.Add([]byte(c.msg))
		if got := m.Sum(); hex.EncodeToString(got[:]) != c.sum || m.Len() != len(c.msg) {
			t.Errorf("key of %d bytes, %q: %x, Len %d", len(c.key), c.msg, got, m.Len())
		}
	}
}

func TestMacGoesOn(t *testing.T) {
	for _, size := range keySizes {
		key := drawn(8, size)
		m := hmac.New(key)
		var msg []byte
		for _, part := range []string{"a", "", "bc", strings.Repeat("d", 61), "e", strings.Repeat("f", 64), strings.Repeat("g", 300)} {
			m.Add([]byte(part))
			msg = append(msg, part...)
			holds(t, m, key, msg)
		}
	}
}

func TestMacsAreApart(t *testing.T) {
	a, b, c := hmac.New([]byte("one")), hmac.New([]byte("another")), hmac.New([]byte("one"))
	a.Add([]byte("text"))
	holds(t, b, []byte("another"), nil)
	holds(t, c, []byte("one"), nil)
	b.Add([]byte("words"))
	c.Add([]byte("more"))
	holds(t, a, []byte("one"), []byte("text"))
	holds(t, b, []byte("another"), []byte("words"))
	holds(t, c, []byte("one"), []byte("more"))
}

func TestMacThatNobodyMade(t *testing.T) {
	for name, m := range map[string]*hmac.Mac{"nil": nil, "zero": {}, "new": new(hmac.Mac)} {
		for _, b := range [][]byte{nil, {}, {1}, drawn(9, 64), drawn(9, 200)} {
			m.Add(b)
			if m.Sum() != [32]byte{} || m.Len() != 0 {
				t.Errorf("%s, %d bytes added: %x, %d", name, len(b), m.Sum(), m.Len())
			}
		}
	}
}

// P3.4

// Each cut in two, and each in three of a shorter message.
func TestCuts(t *testing.T) {
	for _, size := range []int{0, 5, 64, 65} {
		key, msg := drawn(10, size), drawn(11, 200)
		whole := hmac.Sum(key, msg)
		for i := range len(msg) + 1 {
			m := hmac.New(key)
			m.Add(msg[:i])
			m.Add(msg[i:])
			if m.Sum() != whole || m.Len() != len(msg) {
				t.Fatalf("key of %d bytes, cut at %d: %x", size, i, m.Sum())
			}
		}
		msg = msg[:70]
		whole = hmac.Sum(key, msg)
		for i := range len(msg) + 1 {
			for j := i; j <= len(msg); j++ {
				m := hmac.New(key)
				m.Add(msg[:i])
				m.Add(msg[i:j])
				m.Add(msg[j:])
				if m.Sum() != whole || m.Len() != len(msg) {
					t.Fatalf("key of %d bytes, cuts at %d and %d: %x", size, i, j, m.Sum())
				}
			}
		}
	}
}

func TestPiecesDrawn(t *testing.T) {
	r := rand.New(rand.NewSource(12))
	for range 300 {
		key, msg := make([]byte, r.Intn(140)), make([]byte, r.Intn(700))
		r.Read(key)
		r.Read(msg)
		m := hmac.New(key)
		for rest := msg; len(rest) > 0; {
			n := r.Intn(min(len(rest), 150) + 1)
			m.Add(rest[:n])
			rest = rest[n:]
			if r.Intn(4) == 0 {
				holds(t, m, key, msg[:len(msg)-len(rest)])
			}
		}
		holds(t, m, key, msg)
		if m.Sum() != hmac.Sum(key, msg) {
			t.Fatal("the pieces have another sum than the whole")
		}
	}
}

// P3.5

func TestSumIsChecked(t *testing.T) {
	for _, size := range keySizes {
		for _, other := range keySizes {
			key, msg := drawn(13, size), drawn(14, other)
			sum := hmac.Sum(key, msg)
			m := hmac.New(key)
			m.Add(msg)
			made := m.Sum()
			if !hmac.Check(key, msg, sum[:]) || !hmac.Check(key, msg, made[:]) {
				t.Errorf("key of %d bytes, message of %d: the sum is refused", size, other)
			}
		}
	}
	key := hmac.Derive([]byte("secret"), "label", 3)
	if !hmac.Check([]byte("secret"), []byte("label\x00\x00\x00\x00\x00\x00\x00\x00\x03"), key) {
		t.Error("what Derive makes is refused")
	}
}

func TestOtherLengthsAreRefused(t *testing.T) {
	key, msg := []byte("key"), []byte("message")
	sum := hmac.Sum(key, msg)
	long := append(bytes.Clone(sum[:]), sum[:]...)
	for size := range len(long) + 1 {
		if got := hmac.Check(key, msg, long[:size]); got != (size == 32) {
			t.Errorf("%d bytes: %v", size, got)
		}
		if size > 0 && hmac.Check(key, msg, long[size:]) != (size == 32) {
			t.Errorf("%d bytes from behind", len(long)-size)
		}
	}
	for _, more := range [][]byte{{0}, make([]byte, 32), make([]byte, 256), make([]byte, 1<<16)} {
		if hmac.Check(key, msg, append(bytes.Clone(sum[:]), more...)) || hmac.Check(key, msg, append(bytes.Clone(more), sum[:]...)) {
			t.Errorf("the sum and %d zeros are taken", len(more))
		}
	}
}

// Every other value of each byte, so that no bit and no place goes unlooked at.
func TestOtherBytesAreRefused(t *testing.T) {
	key, msg := []byte("key"), []byte("message")
	sum := hmac.Sum(key, msg)
	for i := range sum {
		for by := 1; by < 256; by++ {
			mac := bytes.Clone(sum[:])
			mac[i] ^= byte(by)
			if hmac.Check(key, msg, mac) {
				t.Errorf("byte %d turned by %d is taken", i, by)
			}
		}
	}
	for i := range 31 {
		mac := bytes.Clone(sum[:])
		mac[i] ^= 1
		mac[i+1] ^= 1
		if hmac.Check(key, msg, mac) {
			t.Errorf("bytes %d and %d are taken", i, i+1)
		}
	}
}

// P3.6

func TestZerosBehindKeys(t *testing.T) {
	msg := drawn(15, 90)
	for size := range 65 {
		key := drawn(16, size)
		sum := hmac.Sum(key, msg)
		derived := hmac.Derive(key, "label", 5)
		for more := size; more <= 64; more++ {
			long := append(bytes.Clone(key), make([]byte, more-size)...)
			m := hmac.New(long)
			m.Add(msg)
			if hmac.Sum(long, msg) != sum || m.Sum() != sum || !hmac.Check(long, msg, sum[:]) || !bytes.Equal(hmac.Derive(long, "label", 5), derived) {
				t.Fatalf("%d bytes, and zeros up to %d", size, more)
			}
		}
		// One zero more, and the key's sum stands in its place.
		if long := append(bytes.Clone(key), make([]byte, 65-size)...); hmac.Sum(long, msg) == sum {
			t.Errorf("%d bytes, and zeros up to 65", size)
		}
	}
}

func TestSumsOfLongKeys(t *testing.T) {
	msg := drawn(17, 90)
	for _, size := range []int{65, 66, 96, 127, 128, 129, 1000, 1 << 16} {
		key := drawn(18, size)
		its := sha.Sum(key)
		sum := hmac.Sum(key, msg)
		m := hmac.New(key)
		m.Add(msg)
		if hmac.Sum(its[:], msg) != sum || m.Sum() != sum || !hmac.Check(its[:], msg, sum[:]) || !bytes.Equal(hmac.Derive(its[:], "l", 5), hmac.Derive(key, "l", 5)) {
			t.Errorf("%d bytes", size)
		}
	}
	// Up to 64 bytes the key itself counts, not its sum.
	for size := range 65 {
		key := drawn(18, size)
		its := sha.Sum(key)
		if hmac.Sum(its[:], msg) == hmac.Sum(key, msg) {
			t.Errorf("%d bytes: the sum stands in the key's place", size)
		}
	}
}

// P3.7

func TestNothingIsChanged(t *testing.T) {
	for _, size := range keySizes {
		key, allKey := roomy(drawn(19, size))
		msg, allMsg := roomy(drawn(20, size))
		mac, allMac := roomy(drawn(21, 32))
		keptKey, keptMsg, keptMac := bytes.Clone(allKey), bytes.Clone(allMsg), bytes.Clone(allMac)
		hmac.Sum(key, msg)
		hmac.Check(key, msg, mac)
		hmac.Derive(key, string(msg), size)
		m := hmac.New(key)
		m.Add(msg)
		m.Sum()
		m.Add(msg)
		m.Sum()
		if !bytes.Equal(allKey, keptKey) || !bytes.Equal(allMsg, keptMsg) || !bytes.Equal(allMac, keptMac) {
			t.Errorf("%d bytes: they, or what stands behind them, are changed", size)
		}
	}
}

func TestNothingIsKept(t *testing.T) {
	for _, size := range keySizes {
		key, msg := drawn(22, size), drawn(23, size)
		keptKey, keptMsg := bytes.Clone(key), bytes.Clone(msg)
		m := hmac.New(key)
		clear(key)
		m.Add(msg)
		clear(msg)
		holds(t, m, keptKey, keptMsg)
		m.Add(keptMsg)
		holds(t, m, keptKey, append(bytes.Clone(keptMsg), keptMsg...))
	}
}

// One piece of memory as key, message and sum at once.
func TestOneMemory(t *testing.T) {
	b := drawn(24, 32)
	sum := want(b, b)
	if hmac.Sum(b, b) != sum || hmac.Check(b, b, b) || !hmac.Check(b, b, sum[:]) {
		t.Error("what is one memory is told otherwise")
	}
}

func TestWhatIsToldIsOnesOwn(t *testing.T) {
	first := hmac.Derive([]byte("secret"), "label", 3)
	kept := bytes.Clone(first)
	second := hmac.Derive([]byte("secret"), "label", 3)
	first = first[:cap(first)]
	for i := range first {
		first[i] ^= 255
	}
	if !bytes.Equal(second, kept) || !bytes.Equal(hmac.Derive([]byte("secret"), "label", 3), kept) {
		t.Error("Derive's answers share memory")
	}
	m := hmac.New([]byte("key"))
	m.Add([]byte("message"))
	told := m.Sum()
	clear(told[:])
	holds(t, m, []byte("key"), []byte("message"))
}
