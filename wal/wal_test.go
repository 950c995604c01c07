package wal_test

import (
	"bytes"
	"encoding/binary"
	"hash/adler32"
	"math"
	"math/rand"
	"slices"
	"testing"

	"headrace/api"
	"headrace/disk"
	"headrace/wal"
)

func made(t *testing.T, sectors int) *disk.Disk {
	t.Helper()
	d, err := disk.New(sectors)
	if err != api.OK {
		t.Fatal(err)
	}
	return d
}

func formatted(t *testing.T, sectors, area int) (*disk.Disk, *wal.Wal) {
	t.Helper()
	d := made(t, sectors)
	w, err := wal.Format(d, area)
	if err != api.OK || w == nil {
		t.Fatalf("Format: %d", err)
	}
	return d, w
}

// fill tells n bytes that are not noughts.
func fill(n, seed int) []byte {
	b := make([]byte, n)
	for i := range b {
		b[i] = byte(1 + (i*7+seed)%250)
	}
	return b
}

func all(w *wal.Wal) [][]byte {
	var out [][]byte
	for i, b := range w.All() {
		if i != len(out) {
			return nil
		}
		out = append(out, b)
	}
	return out
}

func same(a, b [][]byte) bool {
	return slices.EqualFunc(a, b, bytes.Equal)
}

// head tells a head's sector, as the chapter says.
func head(turn, area, place, number uint32) (b api.Block) {
	row := []byte("headrace")
	for _, x := range []uint32{turn, area, place, number} {
		row = binary.BigEndian.AppendUint32(row, x)
	}
	copy(b[:], row)
	binary.BigEndian.PutUint32(b[60:], adler32.Checksum(b[:60]))
	return b
}

// sector tells a part's sector, as the chapter says.
func sector(turn, number uint32, k, count uint16, data []byte) (b api.Block) {
	row := binary.BigEndian.AppendUint32(nil, turn)
	row = binary.BigEndian.AppendUint32(row, number)
	row = binary.BigEndian.AppendUint16(row, k)
	row = binary.BigEndian.AppendUint16(row, count)
	var held [48]byte
	copy(held[:], data)
	sum := adler32.Checksum(append(bytes.Clone(row), held[:]...))
	copy(b[:], binary.BigEndian.AppendUint32(row, sum))
	copy(b[16:], held[:])
	return b
}

// part tells a part's sectors.
func part(turn, number uint32, snapshot bool, b []byte) []api.Block {
	row := append(binary.BigEndian.AppendUint32(nil, uint32(len(b))), b...)
	n := (len(row) + 47) / 48
	count := uint16(n)
	if snapshot {
		count |= 1 << 15
	}
	var out []api.Block
	for k := range n {
		out = append(out, sector(turn, number, uint16(k), count, row[48*k:min(len(row), 48*k+48)]))
	}
	return out
}

func lay(t *testing.T, d *disk.Disk, at int, blocks ...api.Block) {
	t.Helper()
	for i, b := range blocks {
		if err := d.Write(at+i, b); err != api.OK {
			t.Fatal(err)
		}
	}
	d.Sync()
}

func show(t *testing.T, d *disk.Disk, i int) api.Block {
	t.Helper()
	b, err := d.Copy().Read(i)
	if err != api.OK {
		t.Fatal(err)
	}
	return b
}

// P4.1: Sectors.
func TestSectors(t *testing.T) {
	for _, r := range [][2]int{{0, 1}, {44, 1}, {45, 2}, {92, 2}, {93, 3}, {40000, 834}, {40001, 0}, {-1, 0}, {math.MinInt, 0}, {math.MaxInt, 0}} {
		if got := wal.Sectors(r[0]); got != r[1] {
			t.Errorf("Sectors(%d): %d", r[0], got)
		}
	}
}

// The chapter's examples.
func TestExamples(t *testing.T) {
	d, w := formatted(t, 10, 4)
	if w.Left() != 3 {
		t.Errorf("Left: %d", w.Left())
	}
	if err := w.Append(fill(60, 1)); err != api.OK || w.Left() != 1 {
		t.Errorf("Append: %d, %d left", err, w.Left())
	}
	if a, b := w.Append(fill(45, 2)), w.Append(fill(44, 3)); a != api.ErrFull || b != api.OK || w.Left() != 0 {
		t.Errorf("Append: %d %d, %d left", a, b, w.Left())
	}
	if err := w.Checkpoint(fill(100, 4)); err != api.OK || w.Left() != 1 || w.Len() != 0 {
		t.Errorf("Checkpoint: %d, %d left, %d", err, w.Left(), w.Len())
	}
	o, err := wal.Open(d)
	if err != api.OK || !bytes.Equal(o.Snapshot(), fill(100, 4)) || o.Left() != 1 || o.Turn() != 3 || o.Len() != 0 {
		t.Errorf("Open: %d", err)
	}
	if w, err := wal.Format(d, 5); err != api.ErrArg || w != nil {
		t.Errorf("Format: %d", err)
	}
	if w, err := wal.Open(made(t, 10)); err != api.ErrWal || w != nil {
		t.Errorf("Open of noughts: %d", err)
	}
}

// P4.1: what Format refuses, and what it lays, step by step.
func TestFormat(t *testing.T) {
	if w, err := wal.Format(nil, 0); err != api.ErrNil || w != nil {
		t.Errorf("Format(nil): %d", err)
	}
	for _, r := range [][2]int{{10, 3}, {10, -4}, {10, 5}, {9, 4}, {2048, 1001}, {2001, 1000}, {10, math.MaxInt}, {10, math.MinInt}} {
		d := made(t, r[0])
		if w, err := wal.Format(d, r[1]); err != api.ErrArg || w != nil || d.Ops() != 0 {
			t.Errorf("Format(%d, %d): %d", r[0], r[1], err)
		}
	}
	if _, err := wal.Format(made(t, 2002), 1000); err != api.OK {
		t.Errorf("the greatest area: %d", err)
	}
	d := made(t, 12)
	for i := range 12 {
		d.Write(i, api.Block{1})
	}
	d.Sync()
	before := d.Ops()
	w, err := wal.Format(d, 4)
	if err != api.OK || w.Turn() != 1 || w.Left() != 3 || w.Len() != 0 || len(w.Snapshot()) != 0 || w.Broken() || w.Disk() != d {
		t.Errorf("Format: %d", err)
	}
	if d.Ops()-before != 15 || len(d.Pending()) != 0 {
		t.Errorf("Format: %d steps", d.Ops()-before)
	}
	want := make([]api.Block, 12)
	want[1], want[2], want[10], want[11] = head(1, 4, 0, 1), part(1, 1, true, nil)[0], api.Block{1}, api.Block{1}
	for i, b := range want {
		if show(t, d, i) != b {
			t.Errorf("sector %d: %v", i, show(t, d, i))
		}
	}
	for n := range 15 {
		d := made(t, 10)
		d.Fail(n)
		if w, err := wal.Format(d, 4); err != api.ErrIo || w != nil || d.Ops() != n {
			t.Errorf("fails at %d: %d", n, err)
		}
		d = made(t, 10)
		d.Arm(n)
		if w, err := wal.Format(d, 4); err != api.ErrDead || w != nil {
			t.Errorf("dead at %d: %d", n, err)
		}
	}
}

// P4.1: the order of what Format writes, told by what is on its way when the power goes.
func TestFormatOrder(t *testing.T) {
	d := made(t, 10)
	d.Arm(9)
	wal.Format(d, 4)
	if got := d.Pending(); !slices.Equal(got, []int{0, 1, 2, 3, 4, 5, 6, 7, 8, 9}) {
		t.Errorf("Pending: %v", got)
	}
}

// P4.2: where the log is, with what is behind it.
func TestOpen(t *testing.T) {
	if w, err := wal.Open(nil); err != api.ErrNil || w != nil {
		t.Errorf("Open(nil): %d", err)
	}
	if w, err := wal.Open(made(t, 1)); err != api.ErrArg || w != nil {
		t.Errorf("Open of one sector: %d", err)
	}
	d, w := formatted(t, 14, 6)
	txs := [][]byte{fill(50, 1), nil, fill(3, 2)}
	for _, b := range txs {
		w.Append(b)
	}
	before := d.Ops()
	o, err := wal.Open(d)
	if err != api.OK || !same(all(o), txs) || len(o.Snapshot()) != 0 || o.Turn() != 2 || o.Left() != 1 || o.Disk() != d {
		t.Fatalf("Open: %d", err)
	}
	// Both heads; five sectors of parts and the one behind them; the new head, and the sync.
	if d.Ops()-before != 2+5+1+2 {
		t.Errorf("Open: %d steps", d.Ops()-before)
	}
	if show(t, d, 0) != head(2, 6, 0, 1) || show(t, d, 1) != head(1, 6, 0, 1) {
		t.Errorf("the heads behind Open")
	}
	o.Append(nil)
	if show(t, d, 2+5) != part(2, 5, false, nil)[0] {
		t.Errorf("a transaction of the new turn")
	}
	before = d.Ops()
	o, err = wal.Open(d)
	if err != api.OK || o.Turn() != 3 || o.Len() != 4 || o.Left() != 0 {
		t.Fatalf("Open again: %d", err)
	}
	if d.Ops()-before != 2+6+2 {
		t.Errorf("Open of a full log: %d steps", d.Ops()-before)
	}
	if show(t, d, 1) != head(3, 6, 0, 1) {
		t.Errorf("the head behind Open again")
	}
}

// P4.2: an error of the disk at each step, with nothing changed.
func TestOpenErrors(t *testing.T) {
	d, w := formatted(t, 14, 6)
	w.Append(fill(60, 1))
	for n := range 8 {
		c := d.Copy()
		c.Fail(n)
		if w, err := wal.Open(c); err != api.ErrIo || w != nil {
			t.Errorf("fails at %d: %d", n, err)
		}
		if o, err := wal.Open(c); err != api.OK || o.Len() != 1 {
			t.Errorf("behind a failure at %d: %d", n, err)
		}
	}
	c := d.Copy()
	c.Fail(8)
	if _, err := wal.Open(c); err != api.OK {
		t.Errorf("no failure: %d", err)
	}
	c = d.Copy()
	c.Arm(0)
	if _, err := wal.Open(c); err != api.ErrDead {
		t.Errorf("the head: %d", err)
	}
	if _, err := wal.Open(c); err != api.ErrDead {
		t.Errorf("dead: %d", err)
	}
}

// P4.2, Words: which head is right, and which one counts.
func TestHeads(t *testing.T) {
	bad := head(2, 4, 0, 1)
	bad[63]++
	rest := head(2, 4, 0, 1)
	rest[30] = 1
	binary.BigEndian.PutUint32(rest[60:], adler32.Checksum(rest[:60]))
	letters := head(2, 4, 0, 1)
	letters[0] = 'H'
	binary.BigEndian.PutUint32(letters[60:], adler32.Checksum(letters[:60]))
	rows := []struct {
		name  string
		a, b  api.Block
		err   api.Errno
		turn  uint32
		value byte
	}{
		{"none", api.Block{}, api.Block{}, api.ErrWal, 0, 0},
		{"first", head(2, 4, 0, 1), api.Block{}, api.OK, 3, 1},
		{"second", api.Block{}, head(2, 4, 0, 1), api.OK, 3, 1},
		{"greater first", head(5, 4, 1, 2), head(4, 4, 0, 1), api.OK, 6, 2},
		{"greater second", head(4, 4, 0, 1), head(5, 4, 1, 2), api.OK, 6, 2},
		{"one turn", head(5, 4, 1, 2), head(5, 4, 0, 1), api.OK, 6, 2},
		{"sum", bad, head(1, 4, 0, 1), api.OK, 2, 1},
		{"not noughts", rest, head(1, 4, 0, 1), api.OK, 2, 1},
		{"letters", letters, head(1, 4, 0, 1), api.OK, 2, 1},
		{"turn 0", head(0, 4, 0, 1), api.Block{}, api.ErrWal, 0, 0},
		{"turn too great", head(api.MaxTurn+1, 4, 0, 1), api.Block{}, api.ErrWal, 0, 0},
		{"greatest turn", head(api.MaxTurn, 4, 0, 1), api.Block{}, api.ErrWal, 0, 0},
		{"one less", head(api.MaxTurn-1, 4, 0, 1), api.Block{}, api.OK, api.MaxTurn, 1},
		{"area 3", head(2, 3, 0, 1), head(1, 4, 0, 1), api.OK, 2, 1},
		{"area 1001", head(2, 1001, 0, 1), head(1, 4, 0, 1), api.OK, 2, 1},
		{"area not there", head(2, 1000, 0, 1), head(1, 4, 0, 1), api.ErrWal, 0, 0},
		{"place", head(2, 4, 8, 1), head(1, 4, 0, 1), api.OK, 2, 1},
		{"number 0", head(2, 4, 0, 0), head(1, 4, 0, 1), api.OK, 2, 1},
		{"number too great", head(2, 4, 0, api.MaxLaid+1), head(1, 4, 0, 1), api.OK, 2, 1},
		{"number not there", head(2, 4, 0, 3), head(1, 4, 0, 1), api.ErrWal, 0, 0},
	}
	for _, r := range rows {
		d := made(t, 10)
		lay(t, d, 0, r.a, r.b)
		lay(t, d, 2, part(1, 1, true, []byte{1})...)
		lay(t, d, 3, part(1, 2, true, []byte{2})...)
		w, err := wal.Open(d)
		if err != r.err || (w == nil) != (err != api.OK) {
			t.Errorf("%s: %d", r.name, err)
			continue
		}
		if w != nil && (w.Turn() != r.turn || !bytes.Equal(w.Snapshot(), []byte{r.value})) {
			t.Errorf("%s: turn %d, %v", r.name, w.Turn(), w.Snapshot())
		}
	}
}

// P4.2, Words: which parts are whole, and how many sectors are asked for.
func TestWhole(t *testing.T) {
	long := part(3, 2, false, fill(100, 1)) // three sectors
	alter := func(i int, change func(b *api.Block)) []api.Block {
		out := slices.Clone(long)
		change(&out[i])
		binary.BigEndian.PutUint32(out[i][12:], adler32.Checksum(append(bytes.Clone(out[i][:12]), out[i][16:]...)))
		return out
	}
	rows := []struct {
		name  string
		row   []api.Block
		txs   int
		reads int // of places
	}{
		{"whole", long, 1, 1 + 3 + 1},
		{"one of another turn", alter(1, func(b *api.Block) { b[3] = 2 }), 0, 1 + 2},
		{"a turn above the head's", part(6, 2, false, fill(100, 1)), 0, 1 + 1},
		{"the head's turn", part(5, 2, false, fill(100, 1)), 1, 1 + 3 + 1},
		{"a number above", part(3, 3, false, fill(100, 1)), 0, 1 + 1},
		{"a snapshot", part(3, 2, true, fill(100, 1)), 0, 1 + 1},
		{"one of another number", alter(2, func(b *api.Block) { b[7] = 9 }), 0, 1 + 3},
		{"one at another place", alter(1, func(b *api.Block) { b[9] = 2 }), 0, 1 + 2},
		{"one of another count", alter(1, func(b *api.Block) { b[11] = 4 }), 0, 1 + 2},
		{"one of a snapshot", alter(1, func(b *api.Block) { b[10] = 128 }), 0, 1 + 2},
		{"not noughts behind", alter(2, func(b *api.Block) { b[63] = 1 }), 0, 1 + 3},
		{"more than the area leaves", part(3, 2, false, fill(44+5*48, 1)), 0, 1 + 1},
		{"as much as the area leaves", part(3, 2, false, fill(44+4*48, 1)), 1, 1 + 5},
		{"noughts", make([]api.Block, 3), 0, 1 + 1},
		{"two", append(part(1, 2, false, nil), part(5, 3, false, nil)...), 2, 1 + 2 + 1},
		{"two, the second one first", append(part(5, 3, false, nil), part(1, 2, false, nil)...), 0, 1 + 1},
	}
	for _, r := range rows {
		d := made(t, 14)
		lay(t, d, 0, head(5, 6, 11, 1))
		lay(t, d, 2+11, part(1, 1, true, []byte{7})...)
		lay(t, d, 2, r.row...)
		before := d.Ops()
		w, err := wal.Open(d)
		if err != api.OK || w.Len() != r.txs || !bytes.Equal(w.Snapshot(), []byte{7}) {
			t.Errorf("%s: %d", r.name, err)
			continue
		}
		if got := d.Ops() - before - 2 - 2; got != r.reads {
			t.Errorf("%s: %d places read, not %d", r.name, got, r.reads)
		}
	}
}

// P4.2: a snapshot that is not whole is no log; a wrong sum ends a part.
func TestSnapshotWhole(t *testing.T) {
	wrong := part(1, 1, true, nil)[0]
	wrong[20]++
	rows := []struct {
		name  string
		row   []api.Block
		reads int
	}{
		{"nothing", nil, 1},
		{"a transaction", part(1, 1, false, nil), 1},
		{"a turn above", part(3, 1, true, nil), 1},
		{"another number", part(1, 2, true, nil), 1},
		{"a wrong sum", []api.Block{wrong}, 1},
		{"more than the area", part(1, 1, true, fill(44+4*48, 1)), 1},
		{"two of three", part(1, 1, true, fill(100, 1))[:2], 3},
	}
	for _, r := range rows {
		d := made(t, 10)
		lay(t, d, 0, head(2, 4, 0, 1))
		lay(t, d, 2, r.row...)
		before := d.Ops()
		if w, err := wal.Open(d); err != api.ErrWal || w != nil {
			t.Errorf("%s: %d", r.name, err)
		}
		if got := d.Ops() - before - 2; got != r.reads {
			t.Errorf("%s: %d places read, not %d", r.name, got, r.reads)
		}
	}
}

// P4.3: Append.
func TestAppend(t *testing.T) {
	d, w := formatted(t, 2002, 1000)
	if err := w.Append(make([]byte, api.MaxTx+1)); err != api.ErrLong {
		t.Errorf("too long: %d", err)
	}
	if err := w.Append(fill(api.MaxTx, 1)); err != api.OK || w.Left() != 999-834 || w.Len() != 1 {
		t.Errorf("the longest: %d, %d left", err, w.Left())
	}
	before := d.Ops()
	if err := w.Append(fill(api.MaxTx, 1)); err != api.ErrFull || d.Ops() != before || w.Len() != 1 || w.Broken() {
		t.Errorf("no room: %d", err)
	}
	d, w = formatted(t, 10, 4)
	before = d.Ops()
	if err := w.Append(fill(60, 1)); err != api.OK || d.Ops()-before != 3 {
		t.Errorf("Append: %d, %d steps", err, d.Ops()-before)
	}
	for i, b := range part(1, 2, false, fill(60, 1)) {
		if show(t, d, 3+i) != b {
			t.Errorf("sector %d: %v", 3+i, show(t, d, 3+i))
		}
	}
	for n := range 3 {
		for _, arm := range []bool{false, true} {
			d, w := formatted(t, 10, 4)
			want := api.ErrIo
			if d.Fail(n); arm {
				d.Fail(-1)
				d.Arm(n)
				want = api.ErrDead
			}
			if err := w.Append(fill(60, 1)); err != want || !w.Broken() || w.Len() != 0 || w.Left() != 3 {
				t.Errorf("fails at %d: %d", n, err)
			}
			if a, b, c := w.Append(nil), w.Checkpoint(nil), w.Append(make([]byte, api.MaxTx+1)); a != api.ErrIo || b != api.ErrIo || c != api.ErrIo {
				t.Errorf("broken: %d %d %d", a, b, c)
			}
		}
	}
}

// P4.4: Checkpoint, step by step.
func TestCheckpoint(t *testing.T) {
	d, w := formatted(t, 10, 4)
	w.Append(fill(60, 1))
	if a, b := w.Checkpoint(make([]byte, api.MaxTx+1)), w.Checkpoint(fill(44+4*48, 1)); a != api.ErrLong || b != api.ErrFull || w.Len() != 1 {
		t.Errorf("refused: %d %d", a, b)
	}
	before := d.Ops()
	if err := w.Checkpoint(fill(44+3*48, 1)); err != api.OK || w.Turn() != 2 || w.Left() != 0 || w.Len() != 0 || d.Ops()-before != 4+1+1+1 {
		t.Errorf("Checkpoint: %d, %d steps", err, d.Ops()-before)
	}
	for i, b := range part(1, 3, true, fill(44+3*48, 1)) {
		if show(t, d, 2+3+i) != b {
			t.Errorf("sector %d: %v", 5+i, show(t, d, 5+i))
		}
	}
	if show(t, d, 0) != head(2, 4, 3, 3) || show(t, d, 1) != head(1, 4, 0, 1) {
		t.Errorf("the heads")
	}
	// The one behind goes round the last place.
	if err := w.Checkpoint(fill(50, 2)); err != api.OK || w.Turn() != 3 || w.Left() != 2 {
		t.Errorf("Checkpoint: %d", err)
	}
	again := part(2, 4, true, fill(50, 2))
	if show(t, d, 9) != again[0] || show(t, d, 2) != again[1] || show(t, d, 1) != head(3, 4, 7, 4) {
		t.Errorf("round the last place")
	}
	for n := range 4 {
		d, w := formatted(t, 10, 4)
		w.Append(fill(1, 1))
		d.Fail(n)
		if err := w.Checkpoint(fill(2, 2)); err != api.ErrIo || !w.Broken() || w.Len() != 1 || len(w.Snapshot()) != 0 || w.Turn() != 1 || w.Left() != 2 {
			t.Errorf("fails at %d: %d", n, err)
		}
	}
}

// P4.3, P4.4: the greatest numbers, and the greatest turn.
func TestGreatest(t *testing.T) {
	d := made(t, 10)
	lay(t, d, 0, head(2, 4, 0, api.MaxLaid-1))
	lay(t, d, 2, part(1, api.MaxLaid-1, true, nil)...)
	w, err := wal.Open(d)
	if err != api.OK {
		t.Fatal(err)
	}
	if a, b, c := w.Append(nil), w.Append(nil), w.Checkpoint(nil); a != api.OK || b != api.ErrFull || c != api.ErrFull || w.Broken() {
		t.Errorf("numbers: %d %d %d", a, b, c)
	}
	d = made(t, 10)
	lay(t, d, 0, head(api.MaxTurn-1, 4, 0, 1))
	lay(t, d, 2, part(1, 1, true, nil)...)
	w, err = wal.Open(d)
	if err != api.OK {
		t.Fatal(err)
	}
	if a, b := w.Append(nil), w.Checkpoint(nil); a != api.OK || b != api.ErrFull || w.Turn() != api.MaxTurn || w.Broken() {
		t.Errorf("turns: %d %d", a, b)
	}
	if w, err := wal.Open(d); err != api.ErrWal || w != nil {
		t.Errorf("the greatest turn: %d", err)
	}
	d.Fail(3)
	if _, err := wal.Open(d); err != api.ErrIo {
		t.Errorf("the greatest turn, and an error: %d", err)
	}
}

// P4.5: of nil; copies; an iterator that is left early.
func TestTold(t *testing.T) {
	var n *wal.Wal
	for range n.All() {
		t.Errorf("nil tells a transaction")
	}
	if len(n.Snapshot()) != 0 || n.Len() != 0 || n.Left() != 0 || n.Turn() != 0 || n.Broken() || n.Disk() != nil {
		t.Errorf("nil tells something")
	}
	if n.Append(nil) != api.ErrNil || n.Checkpoint(nil) != api.ErrNil {
		t.Errorf("nil lays something")
	}
	_, w := formatted(t, 22, 10)
	b := []byte{1, 2}
	w.Checkpoint(b)
	w.Append(b)
	w.Append([]byte{3})
	b[0] = 9
	w.Snapshot()[0] = 9
	for _, x := range w.All() {
		x[0] = 9
	}
	if !bytes.Equal(w.Snapshot(), []byte{1, 2}) || !same(all(w), [][]byte{{1, 2}, {3}}) {
		t.Errorf("shares: %v %v", w.Snapshot(), all(w))
	}
	it := w.All()
	for i := range it {
		if i > 0 {
			t.Errorf("goes on")
		}
		break
	}
	count := 0
	for i := range it {
		if i != count {
			t.Errorf("place %d", i)
		}
		count++
	}
	if count != 2 {
		t.Errorf("gone through again: %d", count)
	}
}

// P4.6: wherever the power goes, and whatever survives.
func TestCrash(t *testing.T) {
	rnd := rand.New(rand.NewSource(4))
	for round := range 400 {
		d, w := formatted(t, 18, 8)
		var snapshot []byte
		var txs [][]byte
		turn := uint32(1)
		for range 25 {
			if rnd.Intn(3) == 0 {
				d.Arm(rnd.Intn(8))
			}
			b := fill(rnd.Intn(160), rnd.Intn(100))
			before, after := w.Turn(), snapshot
			next := append(slices.Clone(txs), b)
			var err api.Errno
			if rnd.Intn(3) > 0 {
				err = w.Append(b)
			} else {
				err = w.Checkpoint(b)
				after, next = b, nil
			}
			if err == api.OK {
				snapshot, txs = after, next
			}
			if err == api.ErrFull {
				after, next = snapshot, txs
			}
			if turn = w.Turn(); turn < before {
				t.Fatalf("round %d: the turn falls", round)
			}
			if !bytes.Equal(w.Snapshot(), snapshot) || !same(all(w), txs) {
				t.Fatalf("round %d: the log is another one than was laid", round)
			}
			if err != api.ErrDead && rnd.Intn(6) > 0 {
				continue
			}
			keep := make([]bool, len(d.Pending()))
			for i := range keep {
				keep[i] = rnd.Intn(2) > 0
			}
			d.Crash(keep)
			o, oerr := wal.Open(d)
			if oerr != api.OK {
				t.Fatalf("round %d: Open: %d", round, oerr)
			}
			was := bytes.Equal(o.Snapshot(), snapshot) && same(all(o), txs)
			is := bytes.Equal(o.Snapshot(), after) && same(all(o), next)
			if !was && !(err == api.ErrDead && is) {
				t.Fatalf("round %d: %d behind a crash: %v %v", round, err, o.Snapshot(), all(o))
			}
			again, _ := wal.Open(d)
			if !same(all(again), all(o)) || !bytes.Equal(again.Snapshot(), o.Snapshot()) || again.Turn() != o.Turn()+1 {
				t.Fatalf("round %d: opened again", round)
			}
			w, snapshot, txs = again, again.Snapshot(), all(again)
		}
	}
}
