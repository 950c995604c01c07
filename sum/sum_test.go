package sum_test

import (
	"bytes"
	"hash/adler32"
	"math/rand"
	"testing"

	"headrace/api"
	"headrace/sum"
)

// P3.1: the chapter's examples, and bytes enough for both sums to go round.
func TestSum32(t *testing.T) {
	rows := []struct {
		b    []byte
		want uint32
	}{
		{nil, 0x00000001},
		{[]byte{}, 0x00000001},
		{[]byte{0}, 0x00010001},
		{[]byte("abc"), 0x024D0127},
		{[]byte{255}, 0x01000100},
	}
	for _, r := range rows {
		if got := sum.Sum32(r.b); got != r.want {
			t.Errorf("Sum32(%v): %08x", r.b, got)
		}
	}
	for _, n := range []int{256, 257, 258, 5552, 65521, 200000} {
		for _, x := range []byte{0, 1, 255} {
			b := bytes.Repeat([]byte{x}, n)
			if got := sum.Sum32(b); got != adler32.Checksum(b) {
				t.Errorf("Sum32 of %d times %d: %08x", n, x, got)
			}
		}
	}
}

// P3.1: Parts.
func TestParts(t *testing.T) {
	for _, r := range [][3]uint32{{0x024D0127, 589, 295}, {0, 0, 0}, {0xffffffff, 65535, 65535}, {0x00010000, 1, 0}, {0xffff, 0, 65535}} {
		if a, b := sum.Parts(r[0]); a != r[1] || b != r[2] {
			t.Errorf("Parts(%08x): %d %d", r[0], a, b)
		}
	}
}

// P3.2: Seal32.
func TestSeal32(t *testing.T) {
	room := []byte{'a', 'b', 'c', 9, 9, 9, 9, 9}
	b := room[:3]
	got := sum.Seal32(b)
	if !bytes.Equal(got, []byte{'a', 'b', 'c', 0x02, 0x4D, 0x01, 0x27}) {
		t.Errorf("Seal32: %v", got)
	}
	got[0] = 'x'
	if b[0] != 'a' || !bytes.Equal(room[3:], []byte{9, 9, 9, 9, 9}) {
		t.Errorf("Seal32 shares, or writes behind the end: %v", room)
	}
	if got := sum.Seal32(nil); !bytes.Equal(got, []byte{0, 0, 0, 1}) {
		t.Errorf("Seal32 of nothing: %v", got)
	}
}

// P3.2: Open32.
func TestOpen32(t *testing.T) {
	rows := []struct {
		b    []byte
		want []byte
		err  api.Errno
	}{
		{[]byte{0, 0, 0, 1}, nil, api.OK},
		{[]byte{0, 0, 0, 0}, nil, api.ErrSum},
		{[]byte{0, 0, 1}, nil, api.ErrShort},
		{nil, nil, api.ErrShort},
		{[]byte{'a', 'b', 'c', 0x02, 0x4D, 0x01, 0x27}, []byte("abc"), api.OK},
		{[]byte{'a', 'b', 'c', 0x27, 0x01, 0x4D, 0x02}, nil, api.ErrSum},
		{[]byte{'a', 'b', 'd', 0x02, 0x4D, 0x01, 0x27}, nil, api.ErrSum},
	}
	for _, r := range rows {
		got, err := sum.Open32(r.b)
		if err != r.err || !bytes.Equal(got, r.want) {
			t.Errorf("Open32(%v): %v %d", r.b, got, err)
		}
	}
	sealed := sum.Seal32([]byte{1, 2, 3})
	got, _ := sum.Open32(sealed)
	_ = append(got, 9)
	got[0] = 9
	if !bytes.Equal(sealed, sum.Seal32([]byte{1, 2, 3})) {
		t.Errorf("Open32 shares: %v", sealed)
	}
}

// P3.3: what follows.
func TestFollows(t *testing.T) {
	rnd := rand.New(rand.NewSource(3))
	for range 500 {
		b := make([]byte, 1+rnd.Intn(400))
		rnd.Read(b)
		i := rnd.Intn(len(b))
		other := bytes.Clone(b)
		other[i] += byte(1 + rnd.Intn(255))
		if sum.Sum32(other) == sum.Sum32(b) {
			t.Errorf("another byte at %d of %v", i, b)
		}
		if i > 0 && b[i] != b[i-1] {
			swapped := bytes.Clone(b)
			swapped[i], swapped[i-1] = b[i-1], b[i]
			if sum.Sum32(swapped) == sum.Sum32(b) {
				t.Errorf("neighbours at %d of %v", i, b)
			}
		}
		high, low := sum.Parts(sum.Sum32(b))
		ha, la := sum.Parts(sum.Sum32(b[:i]))
		hb, lb := sum.Parts(sum.Sum32(b[i:]))
		n := uint32(len(b) - i)
		if low != (la+lb+65520)%65521 || high != (ha+hb+n*(la+65520))%65521 {
			t.Errorf("two rows: %d %d", high, low)
		}
		sealed := sum.Seal32(b)
		if got, err := sum.Open32(sealed); err != api.OK || !bytes.Equal(got, b) {
			t.Errorf("sealed and opened: %d", err)
		}
		sealed[rnd.Intn(len(sealed))] ^= byte(1 + rnd.Intn(255))
		if got, err := sum.Open32(sealed); err != api.ErrSum || len(got) != 0 {
			t.Errorf("another byte is opened: %d", err)
		}
	}
}
