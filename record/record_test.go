package record_test

import (
	"bytes"
	"math"
	"math/rand"
	"slices"
	"testing"

	"headrace/api"
	"headrace/record"
)

func rec(source, key int, value int64) api.Record {
	return api.Record{Source: source, Key: key, Value: value}
}

func elem(source, key int, value int64) api.Elem {
	return api.Elem{Kind: api.ElRecord, Record: rec(source, key, value)}
}

func barrier(n uint64) api.Elem {
	return api.Elem{Kind: api.ElBarrier, Number: n}
}

var end = api.Elem{Kind: api.ElEnd}

// P5.1: Check.
func TestCheck(t *testing.T) {
	for _, r := range []api.Record{rec(0, 0, 0), rec(7, 31, math.MinInt64), rec(7, 0, math.MaxInt64), rec(0, 31, -1)} {
		if err := record.Check(r); err != api.OK {
			t.Errorf("Check(%v): %d", r, err)
		}
	}
	for _, r := range []api.Record{rec(-1, 0, 0), rec(8, 0, 0), rec(0, -1, 0), rec(0, 32, 0), rec(math.MinInt, 0, 0), rec(0, math.MaxInt, 0)} {
		if err := record.Check(r); err != api.ErrRecord {
			t.Errorf("Check(%v): %d", r, err)
		}
	}
}

// P5.1: CheckElem; all that a kind does not have is zero.
func TestCheckElem(t *testing.T) {
	for _, e := range []api.Elem{elem(0, 0, 0), elem(7, 31, -5), barrier(1), barrier(api.MaxNumber), end} {
		if err := record.CheckElem(e); err != api.OK {
			t.Errorf("CheckElem(%v): %d", e, err)
		}
	}
	wrong := []api.Elem{
		{}, {Kind: 4}, {Kind: -1}, {Kind: math.MaxInt},
		elem(8, 0, 0), elem(0, 32, 0), elem(-1, 0, 0),
		barrier(0), barrier(api.MaxNumber + 1), barrier(math.MaxUint64),
		{Kind: api.ElRecord, Number: 1},
		{Kind: api.ElBarrier, Number: 1, Record: rec(0, 0, 1)},
		{Kind: api.ElBarrier, Number: 1, Record: rec(0, 1, 0)},
		{Kind: api.ElEnd, Number: 1},
		{Kind: api.ElEnd, Record: rec(1, 0, 0)},
		{Kind: api.ElEnd, Record: rec(0, 0, 1)},
	}
	for _, e := range wrong {
		if err := record.CheckElem(e); err != api.ErrElem {
			t.Errorf("CheckElem(%v): %d", e, err)
		}
	}
}

// P5.2: by Source, then by Key; the Value plays no part.
func TestCompare(t *testing.T) {
	rows := []struct {
		a, b api.Record
		want int
	}{
		{rec(0, 0, 1), rec(0, 0, 2), 0},
		{rec(0, 31, 0), rec(1, 0, 0), -1},
		{rec(1, 0, 0), rec(0, 31, 0), 1},
		{rec(2, 3, 9), rec(2, 4, 1), -1},
		{rec(2, 4, 9), rec(2, 3, 1), 1},
		{rec(math.MinInt, 0, 0), rec(math.MaxInt, 0, 0), -1},
		{rec(0, math.MaxInt, 0), rec(0, math.MinInt, 0), 1},
	}
	for _, r := range rows {
		if got := record.Compare(r.a, r.b); got != r.want {
			t.Errorf("Compare(%v, %v): %d", r.a, r.b, got)
		}
		if got := record.SameKey(r.a, r.b); got != (r.want == 0) {
			t.Errorf("SameKey(%v, %v): %v", r.a, r.b, got)
		}
	}
}

// P5.2, P5.4: Of.
func TestOf(t *testing.T) {
	row := []api.Elem{elem(1, 2, 5), barrier(3), elem(1, 3, 6), elem(2, 2, 7), elem(1, 2, -8), end, {}}
	rows := []struct {
		key  api.Record
		want []int64
	}{
		{rec(1, 2, 99), []int64{5, -8}},
		{rec(1, 3, 0), []int64{6}},
		{rec(2, 2, 0), []int64{7}},
		{rec(0, 0, 0), nil},
		{rec(2, 3, 0), nil},
	}
	total := 0
	for _, r := range rows {
		got := record.Of(row, r.key)
		if !slices.Equal(got, r.want) {
			t.Errorf("Of(%v): %v", r.key, got)
		}
		total += len(got)
	}
	if total != 4 {
		t.Errorf("of all keys: %d", total)
	}
	if got := record.Of(nil, rec(1, 2, 0)); len(got) != 0 {
		t.Errorf("Of nothing: %v", got)
	}
}

// P5.3: Encode.
func TestEncode(t *testing.T) {
	want := []byte{3, 1, 1, 2, 255, 255, 255, 255, 255, 255, 255, 255, 2, 0, 0, 0, 0, 0, 0, 0, 7, 3}
	if b, err := record.Encode([]api.Elem{elem(1, 2, -1), barrier(7), end}); err != api.OK || !bytes.Equal(b, want) {
		t.Errorf("Encode: %v %d", b, err)
	}
	if b, err := record.Encode(nil); err != api.OK || !bytes.Equal(b, []byte{0}) {
		t.Errorf("Encode of nothing: %v %d", b, err)
	}
	row := slices.Repeat([]api.Elem{end}, api.MaxRow)
	if b, err := record.Encode(row); err != api.OK || len(b) != 201 || b[0] != 200 {
		t.Errorf("Encode of the longest: %v %d", b, err)
	}
	row = append(row, api.Elem{})
	if b, err := record.Encode(row); err != api.ErrLong || len(b) != 0 {
		t.Errorf("Encode of more: %d", err)
	}
	if b, err := record.Encode([]api.Elem{end, barrier(0)}); err != api.ErrElem || len(b) != 0 {
		t.Errorf("Encode of what may not be: %d", err)
	}
}

// P5.3: what Decode refuses, and with which error.
func TestDecodeRefuses(t *testing.T) {
	eight := func(x ...byte) []byte { return append(x, 0, 0, 0, 0, 0, 0, 0, 1) }
	rows := []struct {
		b   []byte
		err api.Errno
	}{
		{nil, api.ErrShort},
		{[]byte{0xc9}, api.ErrLong},
		{[]byte{0xff, 9}, api.ErrLong},
		{[]byte{0xc8}, api.ErrShort},
		{[]byte{1}, api.ErrShort},
		{[]byte{1, 4}, api.ErrElem},
		{[]byte{1, 0}, api.ErrElem},
		{[]byte{5, 0}, api.ErrElem},
		{[]byte{1, 1}, api.ErrShort},
		{[]byte{1, 1, 8}, api.ErrElem},
		{[]byte{1, 1, 7}, api.ErrShort},
		{[]byte{1, 1, 7, 32}, api.ErrElem},
		{[]byte{1, 1, 7, 31}, api.ErrShort},
		{[]byte{1, 1, 7, 31, 0, 0, 0, 0, 0, 0, 0}, api.ErrShort},
		{[]byte{1, 2}, api.ErrShort},
		{[]byte{1, 2, 255, 0, 0, 0, 0, 0, 0}, api.ErrShort},
		{[]byte{1, 2, 0, 0, 0, 0, 0, 0, 0, 0}, api.ErrElem},
		{[]byte{2, 2, 0, 0, 0, 0, 0, 0, 0, 0}, api.ErrElem},
		{eight(1, 2)[:9], api.ErrShort},
		{[]byte{1, 2, 0x40, 0, 0, 0, 0, 0, 0, 1}, api.ErrElem},
		{[]byte{2, 3, 9}, api.ErrElem},
		{[]byte{2, 3}, api.ErrShort},
		{[]byte{0, 0}, api.ErrElem},
		{append(eight(1, 2), 0), api.ErrElem},
		{append(eight(2, 2), 7), api.ErrElem},
	}
	for _, r := range rows {
		if l, err := record.Decode(r.b); err != r.err || len(l) != 0 {
			t.Errorf("Decode(%v): %v %d, not %d", r.b, l, err, r.err)
		}
	}
	if l, err := record.Decode([]byte{0}); err != api.OK || len(l) != 0 {
		t.Errorf("Decode of none: %v %d", l, err)
	}
	if l, err := record.Decode([]byte{1, 2, 0x40, 0, 0, 0, 0, 0, 0, 0}); err != api.OK || !slices.Equal(l, []api.Elem{barrier(api.MaxNumber)}) {
		t.Errorf("Decode of the greatest barrier: %v %d", l, err)
	}
}

// P5.4: there and back.
func TestFollows(t *testing.T) {
	rnd := rand.New(rand.NewSource(5))
	for range 300 {
		row := make([]api.Elem, rnd.Intn(8))
		for i := range row {
			switch rnd.Intn(3) {
			case 0:
				row[i] = elem(rnd.Intn(8), rnd.Intn(32), int64(rnd.Uint64()))
			case 1:
				row[i] = barrier(1 + uint64(rnd.Int63n(api.MaxNumber)))
			default:
				row[i] = end
			}
		}
		b, err := record.Encode(row)
		if err != api.OK {
			t.Fatal(err)
		}
		back, err := record.Decode(b)
		if err != api.OK || !slices.Equal(back, row) {
			t.Fatalf("%v: %v %d", row, back, err)
		}
		for n := range b {
			if _, err := record.Decode(b[:n]); err != api.ErrShort {
				t.Fatalf("%v: %d", b[:n], err)
			}
		}
		b[rnd.Intn(len(b))] ^= byte(1 << rnd.Intn(8))
		if l, err := record.Decode(b); err == api.OK {
			if again, _ := record.Encode(l); !bytes.Equal(again, b) {
				t.Fatalf("%v: %v", b, again)
			}
		}
	}
}
