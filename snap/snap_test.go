package snap_test

import (
	"bytes"
	"math"
	"math/rand"
	"slices"
	"testing"

	"headrace/api"
	"headrace/keys"
	"headrace/sample"
	"headrace/snap"
	"headrace/table"
)

func row(source, key int, count, sum int64) api.KeyCell {
	return api.KeyCell{Source: source, Key: key, Cell: api.Cell{Count: count, Sum: sum}}
}

func name(sink, attempt, serial int) api.TxName {
	return api.TxName{Sink: sink, Attempt: attempt, Serial: serial}
}

// of makes a snapshot with rows.
func of(op, index, width int, rows ...api.KeyCell) api.Snap {
	return api.Snap{Op: op, Index: index, Width: width, Table: api.Table{Rows: rows}}
}

func with(s api.Snap, change func(s *api.Snap)) api.Snap {
	s.Table.Rows, s.Txs = slices.Clone(s.Table.Rows), slices.Clone(s.Txs)
	change(&s)
	return s
}

func many(n int) (l []api.TxName) {
	for i := range n {
		l = append(l, name(1, 1, 1+i))
	}
	return l
}

var (
	none = api.Snap{}
	a    = of(1, 0, 2, row(0, 3, 2, 7))
	b    = of(1, 1, 2, row(0, 4, 1, 1))
)

var wrong = []api.Snap{
	none, of(-1, 0, 1), of(8, 0, 1), of(0, 1, 1), of(0, -1, 1), of(0, 0, 0), of(0, 0, 4), of(0, 3, 3),
	of(1, 0, 2, row(0, 3, 2, 7), row(0, 4, 1, 1)), of(1, 0, 1, row(0, 3, 0, 0)), of(1, 0, 1, row(0, 4, 1, 1), row(0, 3, 1, 1)),
	{Width: 1, Offsets: api.Offsets{-1}}, {Width: 1, Offsets: api.Offsets{api.MaxInput + 1}}, {Width: 2, Offsets: api.Offsets{0, 0, 0, 0, 1}}, {Width: 3, Index: 1, Offsets: api.Offsets{1}},
	{Width: 1, Txs: many(25)}, {Width: 1, Txs: []api.TxName{name(1, 1, 2), name(1, 1, 1)}}, {Width: 1, Txs: []api.TxName{name(1, 1, 2), name(1, 1, 2)}}, {Width: 1, Txs: []api.TxName{name(16, 1, 1)}}, {Width: 1, Txs: []api.TxName{{}}},
}

// P18.1: Check; what may not be is refused ahead of all else.
func TestCheck(t *testing.T) {
	for _, s := range []api.Snap{
		a, b, of(7, 2, 3, row(0, 6, 1, 0), row(7, 31, 1, 0)), of(0, 0, 1), {Width: 1, Offsets: api.Offsets{40, 0, 0, 0, 0, 0, 0, 40}}, {Width: 3, Index: 1, Ended: true, Offsets: api.Offsets{0, 0, 0, 5, 6, 7}}, {Width: 1, Txs: many(24)},
	} {
		if err := snap.Check(s); err != api.OK {
			t.Errorf("Check(%v): %d", s, err)
		}
	}
	for _, s := range wrong {
		w, err := snap.Whole([]api.Snap{of(5, 0, 1), s})
		p, err2 := snap.Part(s, 9, 9)
		l, err3 := snap.Rescale([]api.Snap{s}, 9)
		e, err4 := snap.Encode(s)
		for i, err := range []api.Errno{snap.Check(s), err, err2, err3, err4} {
			if err != api.ErrSnap {
				t.Errorf("call %d of %v: %d", i, s, err)
			}
		}
		if !snap.Same(w, none) || !snap.Same(p, none) || len(l)+len(e) > 0 {
			t.Errorf("something beside an error, of %v", s)
		}
	}
}

// P18.1: Fits.
func TestFits(t *testing.T) {
	g := sample.Plain(api.Op{Tag: api.OpReduce, Width: 2}, api.Op{Tag: api.OpWindow, Width: 1, A: 2}, api.Op{Tag: api.OpMap, Width: 3})
	source := of(0, 0, 1)
	source.Offsets = api.Offsets{1, 2, 3, 4, 5, 6, 7, 40}
	sink := of(4, 0, 1)
	sink.Txs = many(2)
	ended := of(3, 1, 3)
	ended.Ended = true
	for i, s := range []api.Snap{source, of(0, 0, 1), a, b, of(1, 0, 2), of(2, 0, 1, row(0, 3, 1, 5)), of(2, 0, 1), ended, of(3, 2, 3), sink, of(4, 0, 1)} {
		if !snap.Fits(g, s) {
			t.Errorf("%d does not fit: %v", i, s)
		}
	}
	offsets := func(s *api.Snap) { s.Offsets[0] = 1 }
	names := func(s *api.Snap) { s.Txs = many(1) }
	for i, s := range []api.Snap{
		none, of(5, 0, 1), of(0, 0, 2), of(1, 0, 1), of(3, 0, 1), of(2, 0, 1, row(0, 3, 2, 5)),
		of(0, 0, 1, row(0, 3, 1, 1)), of(3, 0, 3, row(0, 0, 1, 1)), of(4, 0, 1, row(0, 0, 1, 1)),
		with(a, offsets), with(of(4, 0, 1), offsets), with(of(3, 0, 3), offsets), with(of(2, 0, 1), offsets),
		with(of(0, 0, 1), names), with(a, names), with(of(3, 0, 3), names),
	} {
		if snap.Fits(g, s) {
			t.Errorf("%d fits: %v", i, s)
		}
	}
	for _, s := range wrong {
		if snap.Fits(g, s) {
			t.Errorf("what may not be fits: %v", s)
		}
	}
	if snap.Fits(api.Graph{Ops: g.Ops[:1]}, of(0, 0, 1)) {
		t.Errorf("fits what may not be")
	}
}

// P18.1: Same.
func TestSame(t *testing.T) {
	s := with(a, func(s *api.Snap) { s.Offsets[2] = 3; s.Txs = many(2); s.Ended = true })
	for i, change := range []func(s *api.Snap){
		func(s *api.Snap) { s.Op++ }, func(s *api.Snap) { s.Index++ }, func(s *api.Snap) { s.Width++ }, func(s *api.Snap) { s.Ended = false },
		func(s *api.Snap) { s.Table.Rows[0].Cell.Sum++ }, func(s *api.Snap) { s.Table.Rows = nil }, func(s *api.Snap) { s.Offsets[2]++ }, func(s *api.Snap) { s.Txs[1].Serial++ }, func(s *api.Snap) { s.Txs = s.Txs[:1] },
	} {
		if other := with(s, change); snap.Same(s, other) || !snap.Same(other, other) {
			t.Errorf("change %d makes nothing else", i)
		}
	}
	if !snap.Same(none, api.Snap{Table: api.Table{Rows: []api.KeyCell{}}, Txs: []api.TxName{}}) {
		t.Errorf("nil and empty")
	}
}

// P18.2: Zero.
func TestZero(t *testing.T) {
	for _, r := range [][3]int{{0, 0, 1}, {7, 2, 3}, {1, 1, 2}} {
		if s, err := snap.Zero(r[0], r[1], r[2]); err != api.OK || !snap.Same(s, of(r[0], r[1], r[2])) {
			t.Errorf("Zero%v: %v %d", r, s, err)
		}
	}
	for _, r := range [][3]int{{1, 3, 3}, {-1, 0, 1}, {8, 0, 1}, {0, -1, 1}, {0, 0, 0}, {0, 0, 4}, {math.MaxInt, math.MinInt, 1}} {
		if s, err := snap.Zero(r[0], r[1], r[2]); err != api.ErrArg || !snap.Same(s, none) {
			t.Errorf("Zero%v: %d", r, err)
		}
	}
}

// P18.3: the chapter's examples; Whole.
func TestWhole(t *testing.T) {
	both := of(1, 0, 1, row(0, 3, 2, 7), row(0, 4, 1, 1))
	if s, err := snap.Whole([]api.Snap{a, b}); err != api.OK || !snap.Same(s, both) {
		t.Errorf("Whole: %v %d", s, err)
	}
	for i, l := range [][]api.Snap{
		{b, a}, {a}, {b}, nil, {a, a}, {a, b, b}, {a, of(2, 1, 2)}, {a, of(1, 1, 3)}, {of(1, 0, 3), of(1, 1, 3)},
		{with(a, func(s *api.Snap) { s.Txs = []api.TxName{name(2, 1, 1)} }), with(b, func(s *api.Snap) { s.Txs = many(1) })},
		{with(a, func(s *api.Snap) { s.Txs = many(1) }), with(b, func(s *api.Snap) { s.Txs = many(1) })},
		{with(a, func(s *api.Snap) { s.Txs = many(13) }), with(b, func(s *api.Snap) { s.Txs = many(25)[13:] })},
	} {
		if s, err := snap.Whole(l); err != api.ErrParts || !snap.Same(s, none) {
			t.Errorf("Whole %d: %d", i, err)
		}
		if l, err := snap.Rescale(l, 0); err != api.ErrParts || len(l) > 0 {
			t.Errorf("Rescale %d: %d", i, err)
		}
	}
	// Ended only if all are; the Offsets of each group as in the part whose it is; all names.
	x := with(a, func(s *api.Snap) { s.Ended = true; s.Offsets = api.Offsets{1, 2, 3, 4}; s.Txs = many(2) })
	y := with(b, func(s *api.Snap) {
		s.Offsets = api.Offsets{0, 0, 0, 0, 5, 6, 7, 8}
		s.Txs = []api.TxName{name(2, 1, 1)}
	})
	want := with(both, func(s *api.Snap) {
		s.Offsets = api.Offsets{1, 2, 3, 4, 5, 6, 7, 8}
		s.Txs = []api.TxName{name(1, 1, 1), name(1, 1, 2), name(2, 1, 1)}
	})
	if s, err := snap.Whole([]api.Snap{x, y}); err != api.OK || !snap.Same(s, want) {
		t.Errorf("Whole: %v %d", s, err)
	}
	y.Ended, want.Ended = true, true
	if s, err := snap.Whole([]api.Snap{x, y}); err != api.OK || !snap.Same(s, want) {
		t.Errorf("Whole of ended ones: %v %d", s, err)
	}
	if s, err := snap.Whole([]api.Snap{want}); err != api.OK || !snap.Same(s, want) {
		t.Errorf("Whole of a whole: %v %d", s, err)
	}
	for _, r := range []struct {
		index, width int
		want         api.Snap
	}{
		{0, 1, of(1, 0, 1, row(0, 3, 2, 7), row(0, 4, 1, 1))}, {1, 2, b}, {0, 3, of(1, 0, 3)}, {1, 3, of(1, 1, 3, row(0, 3, 2, 7), row(0, 4, 1, 1))},
	} {
		r.want.Ended = true
		owned, _ := keys.Owned(r.index, r.width)
		for _, g := range owned {
			r.want.Offsets[g] = g + 1
		}
		if s, err := snap.Part(want, r.index, r.width); err != api.OK || !snap.Same(s, r.want) {
			t.Errorf("Part(%d, %d): %v %d", r.index, r.width, s, err)
		}
	}
}

// P18.3: Part, Rescale.
func TestRescale(t *testing.T) {
	l, err := snap.Rescale([]api.Snap{a, b}, 3)
	want := []api.Snap{of(1, 0, 3), of(1, 1, 3, row(0, 3, 2, 7), row(0, 4, 1, 1)), of(1, 2, 3)}
	if err != api.OK || !slices.EqualFunc(l, want, snap.Same) {
		t.Errorf("Rescale: %v %d", l, err)
	}
	if s, err := snap.Part(a, 0, 1); err != api.ErrParts || !snap.Same(s, none) {
		t.Errorf("Part of a part: %d", err)
	}
	for _, r := range [][2]int{{1, 1}, {-1, 2}, {0, 0}, {0, 4}} {
		if s, err := snap.Part(of(1, 0, 1), r[0], r[1]); err != api.ErrArg || !snap.Same(s, none) {
			t.Errorf("Part%v: %d", r, err)
		}
		if s, err := snap.Part(a, r[0], r[1]); err != api.ErrParts || !snap.Same(s, none) {
			t.Errorf("Part%v of a part: %d", r, err)
		}
	}
	for _, width := range []int{0, 4, -1, math.MaxInt} {
		if l, err := snap.Rescale([]api.Snap{a, b}, width); err != api.ErrArg || len(l) > 0 {
			t.Errorf("Rescale to %d: %d", width, err)
		}
	}
}

// P18.4: Encode, Decode.
func TestBytes(t *testing.T) {
	zero := append([]byte{1, 0, 1, 0, 0, 0}, make([]byte, 9)...)
	if got, err := snap.Encode(of(1, 0, 1)); err != api.OK || !bytes.Equal(got, zero) {
		t.Errorf("Encode: %v %d", got, err)
	}
	s := with(of(7, 1, 2, row(0, 4, 258, -1)), func(s *api.Snap) {
		s.Ended = true
		s.Offsets = api.Offsets{0, 0, 0, 0, 40, 3}
		s.Txs = []api.TxName{name(3, 1, 1<<20), name(15, 258, 1)}
	})
	good, err := snap.Encode(s)
	want := slices.Concat([]byte{7, 1, 2, 1, 0, 1, 0, 4, 0, 0, 0, 0, 0, 0, 1, 2}, bytes.Repeat([]byte{255}, 8), []byte{0, 0, 0, 0, 40, 3, 0, 0, 2, 3, 0, 0, 0, 1, 0, 16, 0, 0, 15, 0, 0, 1, 2, 0, 0, 0, 1})
	if err != api.OK || !bytes.Equal(good, want) {
		t.Errorf("Encode: %v %d", good, err)
	}
	if got, err := snap.Decode(good); err != api.OK || !snap.Same(got, s) {
		t.Errorf("Decode: %v %d", got, err)
	}
	for n := range good {
		if got, err := snap.Decode(good[:n]); err != api.ErrShort || !snap.Same(got, none) {
			t.Errorf("Decode of %d bytes: %d", n, err)
		}
	}
	change := func(at int, x byte) []byte {
		b := bytes.Clone(good)
		b[at] = x
		return b
	}
	for _, r := range []struct {
		name string
		b    []byte
		err  api.Errno
	}{
		{"nothing", nil, api.ErrShort},
		{"more behind", append(bytes.Clone(good), 0), api.ErrSnap},
		{"operator", change(0, 8), api.ErrSnap},
		{"index", change(1, 2), api.ErrSnap},
		{"width", change(2, 0), api.ErrSnap},
		{"ended", change(3, 2), api.ErrSnap},
		{"another one's key", change(7, 3), api.ErrSnap},
		{"no cell", change(8, 128), api.ErrSnap},
		{"offset", change(28, 41), api.ErrSnap},
		{"another one's offset", change(24, 1), api.ErrSnap},
		{"falling names", change(42, 2), api.ErrSnap},
		{"no name", change(33, 16), api.ErrSnap},
		{"more cells", change(5, 2), api.ErrShort},
		{"many cells", change(4, 255), api.ErrShort},
		{"more names", change(32, 3), api.ErrShort},
		{"fewer names", change(32, 1), api.ErrSnap},
		{"wrong, and short", change(0, 8)[:40], api.ErrShort},
		{"a wrong table, and short", change(8, 128)[:30], api.ErrShort},
	} {
		if got, err := snap.Decode(r.b); err != r.err || !snap.Same(got, none) {
			t.Errorf("%s: %d", r.name, err)
		}
	}
	if got, err := snap.Decode(append(bytes.Clone(zero[:14]), append([]byte{25}, make([]byte, 225)...)...)); err != api.ErrSnap || !snap.Same(got, none) {
		t.Errorf("25 names: %d", err)
	}
}

// R3: nothing is shared.
func TestShares(t *testing.T) {
	whole := with(of(1, 0, 1, row(0, 3, 2, 7)), func(s *api.Snap) { s.Txs = many(1) })
	was := with(whole, func(*api.Snap) {})
	w, _ := snap.Whole([]api.Snap{whole})
	p, _ := snap.Part(whole, 0, 1)
	l, _ := snap.Rescale([]api.Snap{whole}, 1)
	for _, s := range append(l, w, p) {
		for i := range s.Table.Rows {
			s.Table.Rows[i].Cell.Sum = 77
		}
		for i := range s.Txs {
			s.Txs[i].Sink = 77
		}
	}
	if !snap.Same(whole, was) {
		t.Errorf("changed: %v", whole)
	}
}

// P18.5: what follows.
func TestFollows(t *testing.T) {
	rnd := rand.New(rand.NewSource(18))
	for range 300 {
		whole := of(rnd.Intn(8), 0, 1)
		whole.Ended = rnd.Intn(2) > 0
		for g := range whole.Offsets {
			whole.Offsets[g] = rnd.Intn(41)
		}
		for range rnd.Intn(20) {
			whole.Table, _ = table.Put(whole.Table, api.Record{Source: rnd.Intn(8), Key: rnd.Intn(32)}, api.Cell{Count: 1 + int64(rnd.Intn(9)), Sum: rnd.Int63()})
		}
		there, back := 1+rnd.Intn(3), 1+rnd.Intn(3)
		l, err := snap.Rescale([]api.Snap{whole}, there)
		if err != api.OK || len(l) != there {
			t.Fatal(err)
		}
		cells := 0
		for _, s := range l {
			if snap.Check(s) != api.OK {
				t.Fatalf("%v: the part %v", whole, s)
			}
			for _, row := range s.Table.Rows {
				if table.Get(whole.Table, api.Record{Source: row.Source, Key: row.Key}) != row.Cell {
					t.Fatalf("%v: %v", whole, row)
				}
				cells++
			}
			b, _ := snap.Encode(s)
			if got, err := snap.Decode(b); err != api.OK || !snap.Same(got, s) {
				t.Fatalf("%v: %v %d", s, got, err)
			}
			b[rnd.Intn(len(b))] ^= byte(1 << rnd.Intn(8))
			if got, err := snap.Decode(b); err == api.OK {
				if again, _ := snap.Encode(got); !bytes.Equal(again, b) {
					t.Fatalf("%v: %v", b, again)
				}
			}
		}
		m, err := snap.Rescale(l, back)
		if err != api.OK || cells != len(whole.Table.Rows) {
			t.Fatal(err)
		}
		if got, err := snap.Whole(m); err != api.OK || !snap.Same(got, whole) {
			t.Fatalf("%v: there and back %v", whole, got)
		}
	}
}
