package table_test

import (
	"bytes"
	"math"
	"math/rand"
	"slices"
	"testing"

	"headrace/api"
	"headrace/keys"
	"headrace/table"
)

func op(tag int, a int64) api.Op {
	return api.Op{Tag: tag, Width: 1, A: a, Inputs: []int{0}}
}

func row(source, key int, count, sum int64) api.KeyCell {
	return api.KeyCell{Source: source, Key: key, Cell: api.Cell{Count: count, Sum: sum}}
}

func of(l ...api.KeyCell) api.Table { return api.Table{Rows: l} }

func rec(source, key int, value int64) api.Record {
	return api.Record{Source: source, Key: key, Value: value}
}

var (
	reduce  = op(api.OpReduce, 0)
	example = of(row(0, 3, 2, 7), row(0, 4, 1, 1))
	wrong   = []api.Table{
		of(row(0, 3, 0, 0)), of(row(0, 3, -1, 0)), of(row(8, 3, 1, 0)), of(row(-1, 3, 1, 0)), of(row(0, 32, 1, 0)), of(row(0, -1, 1, 0)),
		of(row(0, 4, 1, 1), row(0, 3, 1, 1)), of(row(0, 3, 1, 1), row(0, 3, 1, 1)), of(row(1, 0, 1, 1), row(0, 31, 1, 1)),
	}
)

// P12.1: Check, Fits, Same.
func TestCheck(t *testing.T) {
	for _, x := range []api.Table{{}, example, of(row(0, 31, 1, 0), row(1, 0, math.MaxInt64, math.MinInt64), row(7, 31, 1, 1))} {
		if err := table.Check(x); err != api.OK {
			t.Errorf("Check(%v): %d", x, err)
		}
	}
	for _, x := range wrong {
		if err := table.Check(x); err != api.ErrTable {
			t.Errorf("Check(%v): %d", x, err)
		}
		if table.Fits(reduce, x) {
			t.Errorf("Fits(%v)", x)
		}
		b, err := table.Encode(x)
		p, err2 := table.Part(x, 9, 9)
		j, err3 := table.Join(x, of())
		k, err4 := table.Join(of(), x)
		put, err5 := table.Put(x, rec(9, 9, 9), api.Cell{Count: -1})
		d, l, err6 := table.Do(api.Op{}, x, rec(9, 9, 9))
		r, m, err7 := table.Run(api.Op{}, x, make([]api.Record, api.MaxInput+1))
		for i, err := range []api.Errno{err, err2, err3, err4, err5, err6, err7} {
			if err != api.ErrTable {
				t.Errorf("call %d of %v: %d", i, x, err)
			}
		}
		if len(b)+len(p.Rows)+len(j.Rows)+len(k.Rows)+len(put.Rows)+len(d.Rows)+len(l)+len(r.Rows)+len(m) > 0 {
			t.Errorf("something beside an error, of %v", x)
		}
	}
	if table.Same(example, of(row(0, 3, 2, 7))) || table.Same(example, of(row(0, 3, 2, 7), row(0, 4, 1, 2))) || table.Same(example, of(row(0, 4, 1, 1), row(0, 3, 2, 7))) || !table.Same(example, of(row(0, 3, 2, 7), row(0, 4, 1, 1))) || !table.Same(of(), api.Table{Rows: []api.KeyCell{}}) || !table.Same(wrong[0], wrong[0]) {
		t.Errorf("Same")
	}
}

// P12.1: Fits.
func TestFits(t *testing.T) {
	rows := []struct {
		o    api.Op
		x    api.Table
		want bool
	}{
		{reduce, example, true},
		{reduce, of(), true},
		{op(api.OpReduce, 1), of(), false},
		{op(api.OpWindow, 3), example, true},
		{op(api.OpWindow, 2), example, false},
		{op(api.OpWindow, 9), of(), false},
		{op(api.OpMap, 3), of(), true},
		{op(api.OpMap, 3), example, false},
		{api.Op{Tag: api.OpReduce, Width: 1, Inputs: []int{7}}, example, true},
		{api.Op{Tag: api.OpReduce, Width: 1, Inputs: []int{8}}, example, false},
		{api.Op{}, of(), false},
	}
	for _, r := range rows {
		if got := table.Fits(r.o, r.x); got != r.want {
			t.Errorf("Fits(%v, %v): %v", r.o, r.x, got)
		}
	}
}

// P12.2: Get, Put.
func TestGetPut(t *testing.T) {
	for _, r := range []struct {
		x    api.Table
		key  api.Record
		want api.Cell
	}{
		{example, rec(0, 3, 99), api.Cell{Count: 2, Sum: 7}},
		{example, rec(0, 4, 0), api.Cell{Count: 1, Sum: 1}},
		{example, rec(0, 9, 0), api.Cell{}},
		{example, rec(1, 3, 0), api.Cell{}},
		{of(), rec(0, 0, 0), api.Cell{}},
		{of(row(5, 5, 1, 2), row(9, 3, 8, 8), row(1, 1, 3, 4), row(1, 1, 5, 6)), rec(1, 1, 0), api.Cell{Count: 3, Sum: 4}},
		{of(row(5, 5, 1, 2), row(9, 99, -8, 8), row(1, 1, 3, 4)), rec(9, 99, 0), api.Cell{Count: -8, Sum: 8}},
	} {
		if got := table.Get(r.x, r.key); got != r.want {
			t.Errorf("Get(%v, %v): %v", r.x, r.key, got)
		}
	}
	for _, r := range []struct {
		key  api.Record
		c    api.Cell
		want api.Table
		err  api.Errno
	}{
		{rec(0, 3, 5), api.Cell{}, of(row(0, 4, 1, 1)), api.OK},
		{rec(0, 3, 5), api.Cell{Count: 9, Sum: -9}, of(row(0, 3, 9, -9), row(0, 4, 1, 1)), api.OK},
		{rec(0, 0, 5), api.Cell{Count: 1}, of(row(0, 0, 1, 0), row(0, 3, 2, 7), row(0, 4, 1, 1)), api.OK},
		{rec(1, 0, 5), api.Cell{Count: 1}, of(row(0, 3, 2, 7), row(0, 4, 1, 1), row(1, 0, 1, 0)), api.OK},
		{rec(1, 0, 5), api.Cell{}, example, api.OK},
		{rec(8, 0, 5), api.Cell{Count: -1}, of(), api.ErrRecord},
		{rec(0, 32, 5), api.Cell{Count: 1}, of(), api.ErrRecord},
		{rec(0, 3, 5), api.Cell{Count: -1}, of(), api.ErrArg},
		{rec(0, 3, 5), api.Cell{Sum: 1}, of(), api.ErrArg},
	} {
		if got, err := table.Put(example, r.key, r.c); err != r.err || !table.Same(got, r.want) {
			t.Errorf("Put(%v, %v): %v %d", r.key, r.c, got, err)
		}
	}
}

// P12.3: Do, Run.
func TestRun(t *testing.T) {
	x, out, err := table.Run(reduce, of(), []api.Record{rec(0, 3, 5), rec(0, 4, 1), rec(0, 3, 2)})
	if err != api.OK || !table.Same(x, example) || !slices.Equal(out, []api.Record{rec(0, 3, 5), rec(0, 4, 1), rec(0, 3, 7)}) {
		t.Errorf("Run: %v %v %d", x, out, err)
	}
	x, out, err = table.Do(op(api.OpWindow, 3), example, rec(0, 3, 10))
	if err != api.OK || !table.Same(x, of(row(0, 4, 1, 1))) || !slices.Equal(out, []api.Record{rec(0, 3, 17)}) {
		t.Errorf("Do: %v %v %d", x, out, err)
	}
	x, out, err = table.Do(op(api.OpMap, 2), example, rec(0, 9, 10))
	if err != api.OK || !table.Same(x, example) || !slices.Equal(out, []api.Record{rec(0, 9, 20)}) {
		t.Errorf("Do of a map: %v %v %d", x, out, err)
	}
	full := of(row(0, 3, math.MaxInt64, 7))
	for _, r := range []struct {
		o   api.Op
		x   api.Table
		r   api.Record
		err api.Errno
	}{
		{reduce, of(), rec(9, 0, 0), api.ErrRecord},
		{api.Op{}, of(), rec(0, 32, 0), api.ErrRecord},
		{api.Op{}, example, rec(0, 3, 0), api.ErrOp},
		{op(api.OpMap, 2), example, rec(0, 3, 0), api.ErrCell},
		{op(api.OpWindow, 2), example, rec(0, 3, 0), api.ErrCell},
		{reduce, full, rec(0, 3, 0), api.ErrFull},
	} {
		if x, out, err := table.Do(r.o, r.x, r.r); err != r.err || len(x.Rows)+len(out) > 0 {
			t.Errorf("Do(%v, %v): %d", r.o, r.r, err)
		}
		if x, out, err := table.Run(r.o, r.x, []api.Record{r.r, rec(99, 0, 0)}); err != r.err || len(x.Rows)+len(out) > 0 {
			t.Errorf("Run(%v, %v): %d", r.o, r.r, err)
		}
		if x, out, err := table.Run(r.o, r.x, nil); err != api.OK || !table.Same(x, r.x) || len(out) > 0 {
			t.Errorf("Run(%v) of nothing: %d", r.o, err)
		}
	}
	if _, _, err := table.Run(api.Op{}, of(), make([]api.Record, api.MaxInput+1)); err != api.ErrLong {
		t.Errorf("Run of too many: %d", err)
	}
	if x, out, err := table.Run(reduce, of(), make([]api.Record, api.MaxInput)); err != api.OK || len(out) != api.MaxInput || x.Rows[0].Cell.Count != api.MaxInput {
		t.Errorf("Run of the most: %d", err)
	}
	if x, out, err := table.Run(reduce, of(), []api.Record{rec(0, 0, 1), rec(0, 99, 1)}); err != api.ErrRecord || len(x.Rows)+len(out) > 0 {
		t.Errorf("Run of a wrong one: %d", err)
	}
}

// P12.4: Part, Join.
func TestParts(t *testing.T) {
	a, err := table.Part(example, 0, 2)
	b, err2 := table.Part(example, 1, 2)
	if err != api.OK || err2 != api.OK || !table.Same(a, of(example.Rows[0])) || !table.Same(b, of(example.Rows[1])) {
		t.Errorf("Part: %v %v", a, b)
	}
	if x, err := table.Join(b, a); err != api.OK || !table.Same(x, example) {
		t.Errorf("Join: %v %d", x, err)
	}
	if x, err := table.Join(example, example); err != api.ErrThere || len(x.Rows) > 0 {
		t.Errorf("Join of both: %d", err)
	}
	if x, err := table.Join(example, of(row(0, 4, 9, 9))); err != api.ErrThere || len(x.Rows) > 0 {
		t.Errorf("Join of one in both: %d", err)
	}
	for _, r := range [][2]int{{2, 2}, {-1, 2}, {0, 0}, {0, 4}} {
		if x, err := table.Part(example, r[0], r[1]); err != api.ErrArg || len(x.Rows) > 0 {
			t.Errorf("Part of %v: %d", r, err)
		}
	}
}

// P12.5: Encode, Decode.
func TestBytes(t *testing.T) {
	if b, err := table.Encode(of()); err != api.OK || !bytes.Equal(b, []byte{0, 0}) {
		t.Errorf("Encode of none: %v %d", b, err)
	}
	good, err := table.Encode(of(row(1, 31, 258, -1), row(7, 0, 1, 2)))
	want := slices.Concat([]byte{0, 2, 1, 31, 0, 0, 0, 0, 0, 0, 1, 2}, bytes.Repeat([]byte{255}, 8), []byte{7, 0, 0, 0, 0, 0, 0, 0, 0, 1, 0, 0, 0, 0, 0, 0, 0, 2})
	if err != api.OK || !bytes.Equal(good, want) {
		t.Errorf("Encode: %v %d", good, err)
	}
	for n := range good {
		if x, err := table.Decode(good[:n]); err != api.ErrShort || len(x.Rows) > 0 {
			t.Errorf("Decode of %d bytes: %d", n, err)
		}
	}
	change := func(at int, x byte) []byte {
		b := bytes.Clone(good)
		b[at] = x
		return b
	}
	for _, r := range []struct {
		name string
		b    []byte
		err  api.Errno
	}{
		{"a count", []byte{0, 1}, api.ErrShort},
		{"the greatest count", []byte{255, 255, 9}, api.ErrShort},
		{"more behind", append(bytes.Clone(good), 0), api.ErrTable},
		{"a wrong source", change(2, 8), api.ErrTable},
		{"a wrong key", change(3, 32), api.ErrTable},
		{"a count below 0", change(4, 128), api.ErrTable},
		{"rows that do not rise", change(2, 7), api.ErrTable},
		{"a count of none", append([]byte{0, 1}, make([]byte, 18)...), api.ErrTable},
		{"one row, and more", change(1, 1), api.ErrTable},
		{"wrong, and short", change(2, 8)[:30], api.ErrShort},
	} {
		if x, err := table.Decode(r.b); err != r.err || len(x.Rows) > 0 {
			t.Errorf("%s: %d", r.name, err)
		}
	}
}

// R3: what is handed in stays as it was, the room behind its end, too.
func TestShares(t *testing.T) {
	room := append(make([]api.KeyCell, 0, 8), example.Rows...)
	x := api.Table{Rows: room}
	answers := []api.Table{}
	add := func(y api.Table, err api.Errno) {
		if err != api.OK {
			t.Errorf("answer %d: %d", len(answers), err)
		}
		answers = append(answers, y)
	}
	add(table.Put(x, rec(0, 9, 0), api.Cell{Count: 1}))
	add(table.Put(x, rec(0, 0, 0), api.Cell{Count: 1}))
	add(table.Put(x, rec(0, 0, 0), api.Cell{}))
	add(table.Put(x, rec(0, 3, 0), api.Cell{}))
	add(table.Part(x, 0, 1))
	add(table.Join(x, of()))
	add(table.Join(of(), x))
	y, _, err := table.Run(reduce, x, nil)
	add(y, err)
	y, _, err = table.Run(reduce, x, []api.Record{rec(7, 7, 1), rec(0, 0, 1)})
	add(y, err)
	y, _, err = table.Do(op(api.OpMap, 1), x, rec(7, 7, 1))
	add(y, err)
	for _, y := range answers {
		for i := range y.Rows {
			y.Rows[i].Cell.Sum = 99
		}
	}
	if !table.Same(x, example) || room[:3][2] != (api.KeyCell{}) {
		t.Errorf("changed: %v", room[:3])
	}
}

// P12.6: what follows.
func TestFollows(t *testing.T) {
	rnd := rand.New(rand.NewSource(12))
	for range 300 {
		o := reduce
		if rnd.Intn(2) > 0 {
			o = op(api.OpWindow, int64(1+rnd.Intn(4)))
		}
		l := make([]api.Record, rnd.Intn(api.MaxInput+1))
		for i := range l {
			l[i] = rec(rnd.Intn(3), rnd.Intn(12), int64(rnd.Intn(20)-9))
		}
		x, out, err := table.Run(o, of(), l)
		if err != api.OK || !table.Fits(o, x) {
			t.Fatalf("%v: %v %d", l, x, err)
		}
		for _, width := range []int{1, 2, 3} {
			joined := of()
			for index := range width {
				p, _ := table.Part(x, index, width)
				for _, row := range p.Rows {
					if !keys.Mine(rec(row.Source, row.Key, 0), index, width) {
						t.Fatalf("%v is not of %d of %d", row, index, width)
					}
				}
				joined, err = table.Join(p, joined)
				if err != api.OK {
					t.Fatal(err)
				}
			}
			if !table.Same(joined, x) {
				t.Fatalf("%v: joined %v", x, joined)
			}
		}
		for source := range 3 {
			for key := range 12 {
				mine := func(l []api.Record) []api.Record {
					return slices.DeleteFunc(slices.Clone(l), func(r api.Record) bool { return r.Source != source || r.Key != key })
				}
				alone, did, err := table.Run(o, of(), mine(l))
				if err != api.OK || table.Get(alone, rec(source, key, 0)) != table.Get(x, rec(source, key, 0)) || !slices.Equal(did, mine(out)) {
					t.Fatalf("%v: the key %d of %d alone: %v %v", l, key, source, alone, did)
				}
			}
		}
		b, _ := table.Encode(x)
		if y, err := table.Decode(b); err != api.OK || !table.Same(y, x) {
			t.Fatalf("%v: %v %d", x, y, err)
		}
		b[rnd.Intn(len(b))] ^= byte(1 << rnd.Intn(8))
		if y, err := table.Decode(b); err == api.OK {
			if again, _ := table.Encode(y); !bytes.Equal(again, b) {
				t.Fatalf("%v: %v", b, again)
			}
		}
	}
}
