package register_test

import (
	"bytes"
	"fmt"
	"maps"
	"math"
	"math/rand"
	"slices"
	"strings"
	"testing"

	"headrace/api"
	"headrace/disk"
	"headrace/register"
	"headrace/wal"
)

// put thinks that a name has no value, and gives it one.
func put(name string, b []byte) api.Set { return api.Set{Name: name, Is: true, New: b} }

// swap gives a name another value.
func swap(name string, old, b []byte) api.Set {
	return api.Set{Name: name, Was: true, Old: old, Is: true, New: b}
}

// drop takes a name's value away.
func drop(name string, old []byte) api.Set { return api.Set{Name: name, Was: true, Old: old} }

func batch(epoch uint64, sets ...api.Set) api.Batch { return api.Batch{Epoch: epoch, Sets: sets} }

func large(epoch uint64, sets ...api.Set) api.Batch {
	return api.Batch{Epoch: epoch, Large: true, Sets: sets}
}

func fill(n int) []byte { return bytes.Repeat([]byte{7}, n) }

func formatted(t *testing.T, area int) (*disk.Disk, *register.Register) {
	t.Helper()
	d, err := disk.New(2 + 2*area)
	if err != api.OK {
		t.Fatal(err)
	}
	r, err := register.Format(d, area)
	if err != api.OK || r == nil {
		t.Fatalf("Format: %d", err)
	}
	return d, r
}

func commit(t *testing.T, r *register.Register, b api.Batch, want api.Errno) {
	t.Helper()
	epoch, values := r.Epoch(), all(r)
	if err := r.Commit(b); err != want {
		t.Errorf("Commit(%d, %d sets): %d, not %d", b.Epoch, len(b.Sets), err, want)
	}
	if want != api.OK && (r.Epoch() != epoch || !same(all(r), values)) {
		t.Errorf("what is refused changes something")
	}
}

func all(r *register.Register) map[string][]byte {
	out := map[string][]byte{}
	for _, name := range r.Names() {
		b, ok := r.Value(name)
		if !ok {
			return nil
		}
		out[name] = b
	}
	return out
}

func same(a, b map[string][]byte) bool { return maps.EqualFunc(a, b, bytes.Equal) }

func sameBatch(a, b api.Batch) bool {
	return a.Epoch == b.Epoch && a.Large == b.Large && slices.EqualFunc(a.Sets, b.Sets, func(x, y api.Set) bool {
		return x.Name == y.Name && x.Was == y.Was && x.Is == y.Is && bytes.Equal(x.Old, y.Old) && bytes.Equal(x.New, y.New)
	})
}

// The chapter's examples.
func TestExamples(t *testing.T) {
	_, r := formatted(t, 20)
	commit(t, r, batch(3, put("k", []byte{7})), api.OK)
	if b, ok := r.Value("k"); r.Epoch() != 3 || !ok || !bytes.Equal(b, []byte{7}) || r.Area() != 20 {
		t.Errorf("%d %v %v %d", r.Epoch(), b, ok, r.Area())
	}
	commit(t, r, batch(2, swap("k", []byte{7}, []byte{8})), api.ErrPast)
	commit(t, r, batch(3, swap("k", []byte{8}, []byte{9})), api.ErrMoved)
	commit(t, r, batch(4), api.OK)
	if r.Epoch() != 4 {
		t.Errorf("Epoch: %d", r.Epoch())
	}
	commit(t, r, large(4, put("b", fill(500))), api.OK)
	commit(t, r, large(4, put("c", fill(500))), api.ErrFull)
	if b, err := register.Decode(make([]byte, 8)); err != api.ErrShort || !sameBatch(b, api.Batch{}) {
		t.Errorf("Decode: %d", err)
	}
	if b, err := register.Decode(make([]byte, 10)); err != api.OK || !sameBatch(b, api.Batch{}) {
		t.Errorf("Decode: %d", err)
	}
}

// P20.1, P20.3: Format, Open, told; of nil.
func TestFormat(t *testing.T) {
	if r, err := register.Format(nil, 0); err != api.ErrNil || r != nil {
		t.Errorf("Format(nil): %d", err)
	}
	if r, err := register.Open(nil); err != api.ErrNil || r != nil {
		t.Errorf("Open(nil): %d", err)
	}
	d, _ := disk.New(10)
	if r, err := register.Open(d); err != api.ErrWal || r != nil {
		t.Errorf("Open of noughts: %d", err)
	}
	if r, err := register.Format(d, 5); err != api.ErrArg || r != nil {
		t.Errorf("Format: %d", err)
	}
	d.Fail(0)
	if r, err := register.Format(d, 4); err != api.ErrIo || r != nil {
		t.Errorf("Format: %d", err)
	}
	d, r := formatted(t, 4)
	if r.Epoch() != 0 || len(r.Names()) > 0 || r.Area() != 4 || r.Broken() || r.Wal() == nil || r.Wal().Disk() != d {
		t.Errorf("a new register: %d %v", r.Epoch(), r.Names())
	}
	if b, ok := r.Value("k"); len(b) > 0 || ok {
		t.Errorf("a value of nothing: %v", b)
	}
	var n *register.Register
	if b, ok := n.Value("k"); len(b) > 0 || ok || n.Epoch() != 0 || len(n.Names()) > 0 || n.Area() != 0 || n.Broken() || n.Wal() != nil || n.Commit(api.Batch{}) != api.ErrNil {
		t.Errorf("nil tells something")
	}
}

// P20.2: what may not be, and the order of errors.
func TestRefused(t *testing.T) {
	_, r := formatted(t, 100)
	commit(t, r, batch(5, put("k", []byte{7}), put("none", nil)), api.OK)
	long := strings.Repeat("x", api.MaxName)
	many := func(n int) (l []api.Set) {
		for i := range n {
			l = append(l, put(fmt.Sprint("m", i), nil))
		}
		return l
	}
	for i, b := range []api.Batch{
		batch(api.MaxNumber + 1), batch(math.MaxUint64), batch(0, many(api.MaxNames+1)...), batch(0, put("", nil)), batch(0, put(long+"x", nil)), batch(0, put("a", nil), put("a", nil)), batch(0, put("a", nil), drop("a", nil)),
		batch(0, put("a", fill(api.MaxValue+1))), batch(0, drop("a", fill(api.MaxValue+1))), batch(0, api.Set{Name: "a", Old: []byte{1}}), batch(0, api.Set{Name: "a", New: []byte{1}}),
	} {
		if err := r.Commit(b); err != api.ErrArg {
			t.Errorf("Commit %d: %d", i, err)
		}
		if out, err := register.Encode(b); err != api.ErrArg || len(out) > 0 {
			t.Errorf("Encode %d: %d", i, err)
		}
	}
	for _, x := range []struct {
		b   api.Batch
		err api.Errno
	}{
		{batch(4, put("k", nil)), api.ErrPast}, {batch(4), api.ErrPast}, {batch(5, put("k", nil)), api.ErrMoved}, {batch(5, swap("k", []byte{7, 0}, nil)), api.ErrMoved}, {batch(5, drop("a", nil)), api.ErrMoved}, {batch(5, swap("none", []byte{0}, nil)), api.ErrMoved},
		{batch(5, put("a", nil), drop("k", nil)), api.ErrMoved}, {batch(5, many(47)...), api.ErrFull}, {large(5, many(47)...), api.ErrFull},
	} {
		commit(t, r, x.b, x.err)
	}
	ops := r.Wal().Disk().Ops()
	commit(t, r, batch(5), api.OK)
	commit(t, r, large(5), api.OK)
	if r.Wal().Disk().Ops() != ops {
		t.Errorf("something is written of nothing")
	}
	commit(t, r, batch(5, api.Set{Name: "a"}), api.OK) // thought to have none, and to have none
	if len(r.Names()) != 2 || r.Wal().Disk().Ops() == ops {
		t.Errorf("%v", r.Names())
	}
	commit(t, r, batch(5, append(many(47), drop("k", []byte{7}))...), api.OK)
	if names := r.Names(); len(names) != api.MaxNames || !slices.IsSorted(names) {
		t.Errorf("%v", names)
	}
	commit(t, r, batch(5, put(long, nil)), api.ErrFull)
	commit(t, r, batch(api.MaxNumber, drop("none", nil), put(long, fill(api.MaxValue))), api.OK)
	if b, ok := r.Value(long); !ok || len(b) != api.MaxValue || r.Epoch() != api.MaxNumber {
		t.Errorf("%v %v", b, ok)
	}
}

// P20.2: where a batch is laid: behind the last one, or as a checkpoint of the whole.
func TestWritten(t *testing.T) {
	_, r := formatted(t, 20)
	w := r.Wal()
	b := batch(1, put("a", fill(150)))
	row, _ := register.Encode(b)
	commit(t, r, b, api.OK)
	if w.Len() != 1 || len(w.Snapshot()) > 0 || w.Turn() != 1 || !bytes.Equal(only(w), row) {
		t.Errorf("appended: %d", w.Len())
	}
	for w.Left() >= wal.Sectors(len(row)+150) {
		commit(t, r, batch(1, swap("a", fill(150), fill(150))), api.OK)
	}
	if w.Turn() != 1 {
		t.Fatalf("a checkpoint too early")
	}
	commit(t, r, batch(2, swap("a", fill(150), fill(151)), put("B", nil)), api.OK)
	whole, _ := register.Encode(batch(2, put("B", nil), put("a", fill(151))))
	if w.Len() != 0 || w.Turn() != 2 || !bytes.Equal(w.Snapshot(), whole) || r.Area() != 20 {
		t.Errorf("a checkpoint: %v", w.Snapshot())
	}
	// More than the area has.
	commit(t, r, batch(2, put("c", fill(800))), api.ErrFull)
	if r.Broken() || w.Turn() != 2 {
		t.Errorf("refused, and broken")
	}
	// A Large one leaves some room, even if it is appended.
	_, r = formatted(t, 20)
	commit(t, r, large(1, put("c", fill(12*48-4-10-8))), api.OK)
	_, r = formatted(t, 20)
	commit(t, r, large(1, put("c", fill(12*48-4-10-7))), api.ErrFull)
	commit(t, r, batch(1, put("c", fill(12*48-4-10-7))), api.OK)
	commit(t, r, large(1), api.ErrFull)
	_, r = formatted(t, 8)
	commit(t, r, large(1, put("c", nil)), api.ErrFull)
	// More than the bytes of a transaction, and of a checkpoint.
	_, r = formatted(t, 1000)
	for i := range 12 {
		commit(t, r, batch(1, put(fmt.Sprint("v", i), fill(3000))), api.OK)
	}
	commit(t, r, large(1, put("v12", fill(3000))), api.OK)
	commit(t, r, large(1, put("v13", fill(3000))), api.ErrFull)
	commit(t, r, batch(1, put("v13", fill(3000))), api.OK)
	var swaps []api.Set
	for i := range 14 {
		swaps = append(swaps, swap(fmt.Sprint("v", i), fill(3000), fill(2999)))
	}
	commit(t, r, batch(1, swaps...), api.ErrFull)
	for i := range swaps {
		swaps[i].New = fill(10)
	}
	turn := r.Wal().Turn()
	commit(t, r, batch(1, swaps...), api.OK)
	if r.Wal().Turn() != turn+1 || r.Wal().Len() != 0 {
		t.Errorf("a great batch is no checkpoint")
	}
}

func only(w *wal.Wal) (out []byte) {
	for _, b := range w.All() {
		out = append(out, b...)
	}
	return out
}

// P20.2: the log's error, behind which it is broken.
func TestBroken(t *testing.T) {
	d, r := formatted(t, 20)
	commit(t, r, batch(1, put("a", nil)), api.OK)
	d.Fail(1)
	commit(t, r, batch(2, put("b", nil)), api.ErrIo)
	if !r.Broken() || r.Commit(batch(math.MaxUint64)) != api.ErrIo || r.Commit(batch(1)) != api.ErrIo {
		t.Errorf("not broken")
	}
	d, r = formatted(t, 20)
	d.Arm(0)
	commit(t, r, batch(2, put("b", nil)), api.ErrDead)
	if !r.Broken() {
		t.Errorf("not broken")
	}
}

// P20.1: logs that have a register, and that have none.
func TestOpen(t *testing.T) {
	enc := func(b api.Batch) []byte {
		out, err := register.Encode(b)
		if err != api.OK {
			t.Fatal(err)
		}
		return out
	}
	one := enc(batch(3, put("a", []byte{1}), put("b", nil)))
	var names []api.Set
	for i := range api.MaxNames {
		names = append(names, put(fmt.Sprint("m", 10+i), nil))
	}
	for i, x := range []struct {
		snapshot []byte
		txs      [][]byte
		err      api.Errno
	}{
		{nil, nil, api.OK},
		{nil, [][]byte{one}, api.OK},
		{one, nil, api.OK},
		{one, [][]byte{enc(batch(3, swap("a", []byte{1}, []byte{2}))), enc(large(9, drop("a", []byte{2}), put("c", nil)))}, api.OK},
		{one, [][]byte{enc(batch(3))}, api.OK},
		{enc(batch(0)), nil, api.OK},
		{enc(batch(1, names...)), nil, api.OK},
		{[]byte{0}, nil, api.ErrRegister},
		{nil, [][]byte{nil}, api.ErrRegister},
		{nil, [][]byte{one[1:]}, api.ErrRegister},
		{append(bytes.Clone(one), 0), nil, api.ErrRegister},
		{enc(large(3, put("a", nil))), nil, api.ErrRegister},
		{enc(batch(3, put("b", nil), put("a", nil))), nil, api.ErrRegister},
		{enc(batch(3, api.Set{Name: "a"})), nil, api.ErrRegister},
		{enc(batch(3, drop("a", nil))), nil, api.ErrRegister},
		{enc(batch(3, swap("a", nil, nil))), nil, api.ErrRegister},
		{one, [][]byte{enc(batch(2, drop("a", []byte{1})))}, api.ErrRegister},
		{one, [][]byte{enc(batch(3, drop("a", []byte{2})))}, api.ErrRegister},
		{one, [][]byte{enc(batch(3, put("a", nil)))}, api.ErrRegister},
		{one, [][]byte{enc(batch(5)), enc(batch(4))}, api.ErrRegister},
		{nil, [][]byte{enc(batch(3, drop("a", nil)))}, api.ErrRegister},
		{enc(batch(1, names...)), [][]byte{enc(batch(1, put("z", nil)))}, api.ErrRegister},
		{enc(batch(1, names...)), [][]byte{enc(batch(1, put("z", nil), drop("m10", nil)))}, api.OK},
	} {
		d, _ := disk.New(202)
		w, err := wal.Format(d, 100)
		if err != api.OK {
			t.Fatal(err)
		}
		if x.snapshot != nil {
			w.Checkpoint(x.snapshot)
		}
		for _, tx := range x.txs {
			w.Append(tx)
		}
		r, err := register.Open(d)
		if err != x.err || (r == nil) != (err != api.OK) {
			t.Errorf("log %d: %d", i, err)
		}
		if r != nil && r.Area() != 100 {
			t.Errorf("log %d: the area %d", i, r.Area())
		}
	}
	d, r := formatted(t, 20)
	commit(t, r, batch(3, put("a", []byte{1}), put("b", nil)), api.OK)
	commit(t, r, large(4, drop("b", nil), put("c", []byte{2})), api.OK)
	o, err := register.Open(d)
	if err != api.OK || o.Epoch() != 4 || o.Area() != 20 || !same(all(o), map[string][]byte{"a": {1}, "c": {2}}) {
		t.Errorf("Open: %d", err)
	}
	d.Fail(2)
	if r, err := register.Open(d); err != api.ErrIo || r != nil {
		t.Errorf("Open: %d", err)
	}
}

// P20.4: Encode, Decode.
func TestBytes(t *testing.T) {
	b := large(258, api.Set{Name: "ab", Was: true, Old: []byte{5}, Is: true, New: []byte{6, 7}}, api.Set{Name: "\x00"})
	good, err := register.Encode(b)
	want := []byte{0, 0, 0, 0, 0, 0, 1, 2, 1, 2, 2, 'a', 'b', 1, 0, 1, 5, 1, 0, 2, 6, 7, 1, 0, 0, 0, 0, 0, 0, 0}
	if err != api.OK || !bytes.Equal(good, want) {
		t.Errorf("Encode: %v %d", good, err)
	}
	if got, err := register.Decode(good); err != api.OK || !sameBatch(got, b) {
		t.Errorf("Decode: %v %d", got, err)
	}
	for n := range good {
		if got, err := register.Decode(good[:n]); err != api.ErrShort || !sameBatch(got, api.Batch{}) {
			t.Errorf("Decode of %d bytes: %d", n, err)
		}
	}
	change := func(at int, x byte) []byte {
		b := bytes.Clone(good)
		b[at] = x
		return b
	}
	for _, x := range []struct {
		name string
		b    []byte
		err  api.Errno
	}{
		{"more behind", append(bytes.Clone(good), 0), api.ErrArg},
		{"an epoch too great", change(0, 128), api.ErrArg},
		{"Large of 2", change(8, 2), api.ErrArg},
		{"one Set, and more", change(9, 1), api.ErrArg},
		{"three Sets", change(9, 3), api.ErrShort},
		{"Was of 2", change(13, 2), api.ErrArg},
		{"Old without Was", change(13, 0), api.ErrArg},
		{"Is of 3", change(17, 3), api.ErrArg},
		{"New without Is", change(17, 0), api.ErrArg},
		{"a long value", change(14, 99), api.ErrShort},
		{"wrong, and short", change(8, 2)[:20], api.ErrShort},
		{"no name", []byte{0, 0, 0, 0, 0, 0, 0, 0, 0, 1, 0, 0, 0, 0, 0, 0, 0}, api.ErrArg},
		{"a name twice", slices.Concat(make([]byte, 9), []byte{2, 1, 'a', 0, 0, 0, 0, 0, 0, 1, 'a', 0, 0, 0, 0, 0, 0}), api.ErrArg},
		{"a long name", slices.Concat(make([]byte, 9), []byte{1, 25}, make([]byte, 31)), api.ErrArg},
	} {
		if got, err := register.Decode(x.b); err != x.err || !sameBatch(got, api.Batch{}) {
			t.Errorf("%s: %d", x.name, err)
		}
	}
}

// R3: nothing is shared.
func TestShares(t *testing.T) {
	_, r := formatted(t, 20)
	b := []byte{1, 2}
	commit(t, r, batch(1, put("a", b)), api.OK)
	b[0] = 9
	got, _ := r.Value("a")
	got[1] = 9
	if v, _ := r.Value("a"); !bytes.Equal(v, []byte{1, 2}) {
		t.Errorf("shares: %v", v)
	}
	names := r.Names()
	names[0] = "z"
	if r.Names()[0] != "a" {
		t.Errorf("Names shares")
	}
}

// P20.5: wherever the power goes.
func TestCrash(t *testing.T) {
	rnd := rand.New(rand.NewSource(20))
	for round := range 200 {
		d, r := formatted(t, 30)
		values := map[string][]byte{}
		var epoch uint64
		for range 30 {
			if rnd.Intn(3) == 0 {
				d.Arm(rnd.Intn(9))
			}
			b := api.Batch{Epoch: epoch + uint64(rnd.Intn(2)), Large: rnd.Intn(3) == 0}
			next := maps.Clone(values)
			for _, name := range []string{"a", "b", "c"} {
				old, was := values[name]
				s := api.Set{Name: name, Was: was, Old: old}
				if rnd.Intn(3) > 0 {
					s.Is, s.New = true, fill(rnd.Intn(200))
					next[name] = s.New
				} else {
					delete(next, name)
				}
				b.Sets = append(b.Sets, s)
			}
			err := r.Commit(b)
			switch err {
			case api.OK:
				values, epoch = next, b.Epoch
				if b.Large {
					whole, _ := register.Encode(b)
					if used := wal.Sectors(len(whole)); used > 30-api.Spare && len(next) == 3 {
						t.Fatalf("a Large batch leaves no room: %d", used)
					}
				}
			case api.ErrFull, api.ErrDead:
			default:
				t.Fatalf("round %d: %d", round, err)
			}
			if err != api.ErrDead {
				continue
			}
			keep := make([]bool, len(d.Pending()))
			for i := range keep {
				keep[i] = rnd.Intn(2) > 0
			}
			d.Crash(keep)
			o, err := register.Open(d)
			if err != api.OK {
				t.Fatalf("round %d: Open: %d", round, err)
			}
			was := o.Epoch() == epoch && same(all(o), values)
			is := o.Epoch() == b.Epoch && same(all(o), next)
			if !was && !is {
				t.Fatalf("round %d: neither what was nor what would be", round)
			}
			r, epoch, values = o, o.Epoch(), all(o)
		}
	}
}
