package octet_test

import (
	"bytes"
	"math"
	"math/rand"
	"testing"

	"headrace/api"
	"headrace/octet"
)

// P1.1: highest first, behind what was there.
func TestPut(t *testing.T) {
	rows := []struct {
		name      string
		got, want []byte
	}{
		{"Put16", octet.Put16([]byte{1}, 4660), []byte{1, 0x12, 0x34}},
		{"Put16 of nothing", octet.Put16(nil, 0), []byte{0, 0}},
		{"Put16, greatest", octet.Put16([]byte{}, math.MaxUint16), []byte{255, 255}},
		{"Put32", octet.Put32([]byte{9, 8}, 0x01020304), []byte{9, 8, 1, 2, 3, 4}},
		{"Put32, highest bit", octet.Put32(nil, 1<<31), []byte{128, 0, 0, 0}},
		{"Put64", octet.Put64(nil, 255), []byte{0, 0, 0, 0, 0, 0, 0, 255}},
		{"Put64, all", octet.Put64([]byte{7}, 0x0102030405060708), []byte{7, 1, 2, 3, 4, 5, 6, 7, 8}},
		{"Put64, greatest", octet.Put64(nil, math.MaxUint64), bytes.Repeat([]byte{255}, 8)},
	}
	for _, r := range rows {
		if !bytes.Equal(r.got, r.want) {
			t.Errorf("%s: %v, not %v", r.name, r.got, r.want)
		}
	}
}

// P1.1, R3: the answer shares nothing with b, nor with the room behind b's end.
func TestPutShares(t *testing.T) {
	puts := []func(b []byte) []byte{
		func(b []byte) []byte { return octet.Put16(b, 0xffff) },
		func(b []byte) []byte { return octet.Put32(b, 0xffffffff) },
		func(b []byte) []byte { return octet.Put64(b, math.MaxUint64) },
	}
	for i, put := range puts {
		room := make([]byte, 32)
		b := room[:4]
		out := put(b)
		if !bytes.Equal(room, make([]byte, 32)) {
			t.Errorf("put %d wrote behind b's end", i)
		}
		b[0] = 1
		if out[0] != 0 {
			t.Errorf("put %d shares with b", i)
		}
		out[1] = 2
		if b[1] != 0 {
			t.Errorf("put %d: b shares with the answer", i)
		}
	}
}

// P1.1: Equal.
func TestEqual(t *testing.T) {
	rows := []struct {
		a, b []byte
		want bool
	}{
		{nil, nil, true},
		{nil, []byte{}, true},
		{[]byte{1}, []byte{1, 0}, false},
		{[]byte{1, 0}, []byte{1}, false},
		{nil, []byte{0}, false},
		{[]byte{1, 2, 3}, []byte{1, 2, 3}, true},
		{[]byte{1, 2, 3}, []byte{0, 2, 3}, false},
		{[]byte{1, 2, 3}, []byte{1, 2, 4}, false},
	}
	for _, r := range rows {
		if octet.Equal(r.a, r.b) != r.want {
			t.Errorf("Equal(%v, %v) is not %v", r.a, r.b, r.want)
		}
	}
}

// P1.2, P1.3: what is given, and what stays.
func TestRead(t *testing.T) {
	r := octet.Read([]byte{1, 2, 3, 4, 5, 6, 7, 8, 9, 10, 11, 12, 13, 14, 15, 16, 17, 18})
	if x := r.U8(); x != 1 {
		t.Errorf("U8: %d", x)
	}
	if x := r.U16(); x != 0x0203 {
		t.Errorf("U16: %x", x)
	}
	if x := r.U32(); x != 0x04050607 {
		t.Errorf("U32: %x", x)
	}
	if x := r.U64(); x != 0x08090a0b0c0d0e0f {
		t.Errorf("U64: %x", x)
	}
	if b := r.Raw(0); len(b) != 0 || r.Left() != 3 || r.Err() != api.OK {
		t.Errorf("Raw(0): %v, %d left, %d", b, r.Left(), r.Err())
	}
	if b := r.Raw(2); !bytes.Equal(b, []byte{16, 17}) || r.Left() != 1 {
		t.Errorf("Raw(2): %v, %d left", b, r.Left())
	}
	if b := r.Rest(); !bytes.Equal(b, []byte{18}) || r.Left() != 1 || r.Err() != api.OK {
		t.Errorf("Rest: %v, %d left, %d", b, r.Left(), r.Err())
	}
	if x := r.U8(); x != 18 || r.Left() != 0 || r.Err() != api.OK || len(r.Rest()) != 0 {
		t.Errorf("the last one: %d, %d left, %d", x, r.Left(), r.Err())
	}
}

// P1.2: a reader that lacks what is asked refuses, holds what it held, and refuses from then on.
func TestRefuses(t *testing.T) {
	asks := []struct {
		name string
		held int
		ask  func(r *octet.Reader) bool
		err  api.Errno
	}{
		{"U8", 0, func(r *octet.Reader) bool { return r.U8() == 0 }, api.ErrShort},
		{"U16", 1, func(r *octet.Reader) bool { return r.U16() == 0 }, api.ErrShort},
		{"U32", 3, func(r *octet.Reader) bool { return r.U32() == 0 }, api.ErrShort},
		{"U64", 7, func(r *octet.Reader) bool { return r.U64() == 0 }, api.ErrShort},
		{"Raw", 5, func(r *octet.Reader) bool { return len(r.Raw(6)) == 0 }, api.ErrShort},
		{"Raw, greatest", 5, func(r *octet.Reader) bool { return len(r.Raw(math.MaxInt)) == 0 }, api.ErrShort},
		{"Raw, below 0", 5, func(r *octet.Reader) bool { return len(r.Raw(-1)) == 0 }, api.ErrArg},
		{"Raw, least", 5, func(r *octet.Reader) bool { return len(r.Raw(math.MinInt)) == 0 }, api.ErrArg},
	}
	for _, a := range asks {
		held := bytes.Repeat([]byte{7}, a.held)
		r := octet.Read(held)
		if !a.ask(r) || r.Err() != a.err {
			t.Errorf("%s: gives something, or refuses with %d", a.name, r.Err())
		}
		if r.Left() != a.held || !bytes.Equal(r.Rest(), held) {
			t.Errorf("%s: holds %v", a.name, r.Rest())
		}
		if r.U8() != 0 || r.U16() != 0 || r.U32() != 0 || r.U64() != 0 || len(r.Raw(1)) != 0 || len(r.Raw(0)) != 0 {
			t.Errorf("%s: gives again", a.name)
		}
		if r.Raw(-1); r.Err() != a.err || r.Left() != a.held {
			t.Errorf("%s: refuses with %d then", a.name, r.Err())
		}
	}
}

// P1.3, R4: of nil.
func TestNil(t *testing.T) {
	var r *octet.Reader
	if r.U8() != 0 || r.U16() != 0 || r.U32() != 0 || r.U64() != 0 || len(r.Raw(0)) != 0 || len(r.Raw(-1)) != 0 || r.Left() != 0 || len(r.Rest()) != 0 {
		t.Errorf("nil gives something")
	}
	if r.Err() != api.ErrNil {
		t.Errorf("Err of nil: %d", r.Err())
	}
}

// R3: a reader keeps nothing that it is handed, and gives nothing that it keeps.
func TestReadShares(t *testing.T) {
	b := []byte{1, 2, 3, 4}
	r := octet.Read(b)
	b[0] = 9
	rest := r.Rest()
	rest[1] = 9
	raw := r.Raw(2)
	if !bytes.Equal(raw, []byte{1, 2}) {
		t.Errorf("Raw: %v", raw)
	}
	raw = append(raw, 9, 9)
	raw[0] = 9
	if !bytes.Equal(r.Rest(), []byte{3, 4}) || !bytes.Equal(b, []byte{9, 2, 3, 4}) {
		t.Errorf("the reader shares: %v %v", r.Rest(), b)
	}
}

// P1.4: what follows.
func TestFollows(t *testing.T) {
	rnd := rand.New(rand.NewSource(1))
	for range 300 {
		b := make([]byte, rnd.Intn(40))
		rnd.Read(b)
		r := octet.Read(b)
		var given []byte
		for r.Err() == api.OK {
			switch rnd.Intn(5) {
			case 0:
				if x := r.U8(); r.Err() == api.OK {
					given = append(given, x)
				}
			case 1:
				if x := r.U16(); r.Err() == api.OK {
					given = octet.Put16(given, x)
				}
			case 2:
				if x := r.U32(); r.Err() == api.OK {
					given = octet.Put32(given, x)
				}
			case 3:
				if x := r.U64(); r.Err() == api.OK {
					given = octet.Put64(given, x)
				}
			case 4:
				given = append(given, r.Raw(rnd.Intn(6))...)
			}
			if !octet.Equal(append(bytes.Clone(given), r.Rest()...), b) || r.Left() != len(b)-len(given) {
				t.Fatalf("of %v: %v, %v", b, given, r.Rest())
			}
		}
		x := rnd.Uint64() >> rnd.Intn(64)
		if !octet.Equal(octet.Put64(nil, x&0xffff), append(make([]byte, 6), octet.Put16(nil, uint16(x))...)) || !octet.Equal(octet.Put64(nil, x&0xffffffff), append(make([]byte, 4), octet.Put32(nil, uint32(x))...)) {
			t.Errorf("noughts ahead of %d", x)
		}
		var total uint64
		for _, y := range octet.Put64(nil, x) {
			total += uint64(y)
		}
		if total%255 != x%255 {
			t.Errorf("the bytes of %d sum up to %d", x, total)
		}
	}
}
