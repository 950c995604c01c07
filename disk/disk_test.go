package disk_test

import (
	"math"
	"math/rand"
	"slices"
	"testing"

	"headrace/api"
	"headrace/disk"
)

// block names a block by its first byte.
func block(n int) (b api.Block) {
	b[0], b[63] = byte(n), byte(n)
	return b
}

func made(t *testing.T, sectors int) *disk.Disk {
	t.Helper()
	d, err := disk.New(sectors)
	if err != api.OK || d == nil {
		t.Fatalf("New(%d): %d", sectors, err)
	}
	return d
}

// shows tells what all sectors show, without the disk's own calls being counted.
func shows(t *testing.T, d *disk.Disk) []int {
	t.Helper()
	c := d.Copy()
	c.Arm(-1)
	c.Fail(-1)
	var out []int
	for i := range c.Len() {
		b, err := c.Read(i)
		if err != api.OK || b != block(int(b[0])) {
			t.Fatalf("Read(%d): %v, %d", i, b, err)
		}
		out = append(out, int(b[0]))
	}
	return out
}

// P2.1: New, Len.
func TestNew(t *testing.T) {
	for _, n := range []int{math.MinInt, -1, 0, api.MaxSectors + 1, math.MaxInt} {
		if d, err := disk.New(n); err != api.ErrArg || d != nil {
			t.Errorf("New(%d): %d", n, err)
		}
	}
	for _, n := range []int{1, 4, api.MaxSectors} {
		d := made(t, n)
		if d.Len() != n || d.Ops() != 0 || d.Dead() || len(d.Pending()) != 0 {
			t.Errorf("New(%d): %d sectors, %d ops", n, d.Len(), d.Ops())
		}
		if got := shows(t, d); slices.Max(got) != 0 {
			t.Errorf("a new disk shows %v", got)
		}
	}
}

// P2.1 to P2.5: of nil.
func TestNil(t *testing.T) {
	var d *disk.Disk
	if d.Len() != 0 || d.Copy() != nil || len(d.Pending()) != 0 || d.Ops() != 0 || d.Dead() {
		t.Errorf("nil tells something")
	}
	b, err := d.Read(0)
	errs := []api.Errno{err, d.Write(0, block(1)), d.Sync(), d.Arm(0), d.Arm(-1), d.Fail(0), d.Fail(-1), d.Crash(nil)}
	for i, err := range errs {
		if err != api.ErrNil {
			t.Errorf("call %d of nil: %d", i, err)
		}
	}
	if b != (api.Block{}) {
		t.Errorf("Read of nil: %v", b)
	}
}

// The chapter's examples.
func TestExamples(t *testing.T) {
	d := made(t, 4)
	for _, w := range [][2]int{{2, 5}, {1, 6}, {2, 7}} {
		if err := d.Write(w[0], block(w[1])); err != api.OK {
			t.Errorf("Write: %d", err)
		}
	}
	if got := d.Pending(); !slices.Equal(got, []int{2, 1, 2}) {
		t.Errorf("Pending: %v", got)
	}
	if b, err := d.Read(2); b != block(7) || err != api.OK {
		t.Errorf("Read(2): %v %d", b, err)
	}
	c := d.Copy()
	if err := c.Crash([]bool{true, false, false}); err != api.OK {
		t.Errorf("Crash: %d", err)
	}
	if got := shows(t, c); !slices.Equal(got, []int{0, 0, 5, 0}) {
		t.Errorf("behind the copy's crash: %v", got)
	}
	if err := d.Crash([]bool{false, true, true}); err != api.OK {
		t.Errorf("Crash: %d", err)
	}
	if b, _ := d.Read(2); b != block(0) {
		t.Errorf("Read(2): %v", b)
	}
	if b, _ := d.Read(1); b != block(6) {
		t.Errorf("Read(1): %v", b)
	}
	if err := d.Fail(1); err != api.OK {
		t.Errorf("Fail: %d", err)
	}
	if b, err := d.Read(0); b != block(0) || err != api.OK {
		t.Errorf("Read(0): %v %d", b, err)
	}
	if a, b := d.Sync(), d.Sync(); a != api.ErrIo || b != api.OK || d.Ops() != 8 {
		t.Errorf("Sync, Sync, Ops: %d %d %d", a, b, d.Ops())
	}
}

// P2.2: what there is no sector for; that does not count.
func TestSectors(t *testing.T) {
	d := made(t, 3)
	d.Arm(0)
	d.Fail(0)
	for _, i := range []int{-1, 3, math.MaxInt, math.MinInt} {
		if b, err := d.Read(i); err != api.ErrArg || b != (api.Block{}) {
			t.Errorf("Read(%d): %d", i, err)
		}
		if err := d.Write(i, block(1)); err != api.ErrArg {
			t.Errorf("Write(%d): %d", i, err)
		}
	}
	if d.Dead() || d.Ops() != 0 || len(d.Pending()) != 0 {
		t.Errorf("what was refused counted")
	}
	if _, err := d.Read(2); err != api.ErrIo {
		t.Errorf("Read(2): %d", err)
	}
	if err := d.Write(2, block(1)); err != api.ErrDead {
		t.Errorf("Write(2): %d", err)
	}
}

// P2.2: Sync lets all arrive, and a crash behind it changes nothing.
func TestSync(t *testing.T) {
	d := made(t, 2)
	d.Write(0, block(1))
	d.Write(0, block(2))
	if err := d.Sync(); err != api.OK || len(d.Pending()) != 0 {
		t.Errorf("Sync: %d, %v", err, d.Pending())
	}
	d.Write(1, block(3))
	d.Crash(nil)
	if got := shows(t, d); !slices.Equal(got, []int{2, 0}) || len(d.Pending()) != 0 {
		t.Errorf("behind the crash: %v, %v", got, d.Pending())
	}
}

// P2.4: armed, the power goes; a Write's block is on its way then, a Sync does nothing.
func TestArm(t *testing.T) {
	d := made(t, 2)
	if err := d.Arm(2); err != api.OK {
		t.Fatal(err)
	}
	d.Read(0)
	d.Read(0)
	d.Read(0)
	if a, b, c := d.Write(0, block(1)), d.Sync(), d.Write(1, block(2)); a != api.OK || b != api.OK || c != api.ErrDead {
		t.Errorf("%d %d %d", a, b, c)
	}
	if !d.Dead() || d.Ops() != 5 || !slices.Equal(d.Pending(), []int{1}) {
		t.Errorf("dead: %v, %d, %v", d.Dead(), d.Ops(), d.Pending())
	}
	b, err := d.Read(0)
	for i, err := range []api.Errno{err, d.Write(0, block(1)), d.Write(9, block(1)), d.Sync(), d.Arm(1), d.Arm(-1), d.Fail(1), d.Fail(-1)} {
		if err != api.ErrDead {
			t.Errorf("call %d of a dead disk: %d", i, err)
		}
	}
	if _, err := d.Read(-1); err != api.ErrDead || b != (api.Block{}) || d.Ops() != 5 || !slices.Equal(d.Pending(), []int{1}) {
		t.Errorf("a dead disk does something")
	}
	c := d.Copy()
	if !c.Dead() || c.Crash([]bool{true}) != api.OK || c.Dead() {
		t.Errorf("the copy's state")
	}
	if got := shows(t, c); !slices.Equal(got, []int{1, 2}) {
		t.Errorf("the block of the last write: %v", got)
	}
	if err := c.Write(0, block(3)); err != api.OK {
		t.Errorf("armed yet: %d", err)
	}
	d.Crash(nil)
	if got := shows(t, d); !slices.Equal(got, []int{1, 0}) {
		t.Errorf("lost: %v", got)
	}
	d.Write(0, block(4))
	d.Arm(0)
	if err := d.Sync(); err != api.ErrDead || !d.Dead() || !slices.Equal(d.Pending(), []int{0}) {
		t.Errorf("Sync: %d, %v", err, d.Pending())
	}
}

// P2.4: unset, and set anew.
func TestUnset(t *testing.T) {
	d := made(t, 1)
	d.Arm(0)
	if err := d.Arm(-1); err != api.OK {
		t.Errorf("Arm(-1): %d", err)
	}
	d.Fail(0)
	if err := d.Fail(math.MinInt); err != api.OK {
		t.Errorf("Fail: %d", err)
	}
	if a, b := d.Write(0, block(1)), d.Sync(); a != api.OK || b != api.OK {
		t.Errorf("%d %d", a, b)
	}
	d.Fail(0)
	d.Fail(1)
	if _, err := d.Read(0); err != api.OK {
		t.Errorf("Read: %d", err)
	}
	if a, b := d.Write(0, block(2)), d.Write(0, block(3)); a != api.ErrIo || b != api.OK || len(d.Pending()) != 1 {
		t.Errorf("%d %d %v", a, b, d.Pending())
	}
	d.Arm(math.MaxInt)
	d.Fail(math.MaxInt)
	if err := d.Sync(); err != api.OK {
		t.Errorf("Sync: %d", err)
	}
	d.Arm(0)
	d.Fail(0)
	d.Crash(nil)
	if _, err := d.Read(0); err != api.OK || d.Write(0, block(1)) != api.OK {
		t.Errorf("a crash leaves it armed, or set to fail")
	}
}

// Words: where both would happen the power goes; what fails is not among what the power lasts for.
func TestBoth(t *testing.T) {
	d := made(t, 1)
	d.Arm(0)
	d.Fail(0)
	if err := d.Write(0, block(1)); err != api.ErrDead {
		t.Errorf("both: %d", err)
	}
	d = made(t, 1)
	d.Arm(1)
	d.Fail(0)
	if a, b, c := d.Sync(), d.Sync(), d.Sync(); a != api.ErrIo || b != api.OK || c != api.ErrDead {
		t.Errorf("%d %d %d", a, b, c)
	}
	if d.Ops() != 1 {
		t.Errorf("Ops: %d", d.Ops())
	}
}

// P2.1, R3: a copy has the same fuses, and memory of its own.
func TestCopy(t *testing.T) {
	d := made(t, 2)
	d.Write(0, block(1))
	d.Write(1, block(2))
	d.Arm(1)
	d.Fail(2)
	c := d.Copy()
	if c.Ops() != 2 || !slices.Equal(c.Pending(), []int{0, 1}) {
		t.Errorf("the copy: %d %v", c.Ops(), c.Pending())
	}
	for _, x := range []*disk.Disk{d, c} {
		_, err := x.Read(0)
		if a, b, e := err, x.Write(0, block(3)), x.Write(0, block(4)); a != api.OK || b != api.OK || e != api.ErrDead {
			t.Errorf("%d %d %d", a, b, e)
		}
	}
	c.Crash(nil)
	if !slices.Equal(d.Pending(), []int{0, 1, 0, 0}) {
		t.Errorf("the copy shares: %v", d.Pending())
	}
	p := d.Pending()
	p[0] = 1
	if d.Pending()[0] != 0 {
		t.Errorf("Pending shares")
	}
}

// model says what a disk is by its words alone.
type model struct {
	arrived []int
	row     [][2]int
	ops     int
	dead    bool
	arm     int
	fail    int
}

func (m *model) shows() []int {
	out := slices.Clone(m.arrived)
	for _, w := range m.row {
		out[w[0]] = w[1]
	}
	return out
}

func (m *model) call(changes bool, write func()) api.Errno {
	switch {
	case m.dead:
		return api.ErrDead
	case changes && m.arm == 0:
		m.dead = true
		write()
		return api.ErrDead
	case m.fail == 0:
		m.fail = -1
		return api.ErrIo
	}
	if changes && m.arm > 0 {
		m.arm--
	}
	if m.fail > 0 {
		m.fail--
	}
	m.ops++
	write()
	return api.OK
}

func (m *model) crash(keep []bool) {
	lost := make([]bool, len(m.arrived))
	for i, w := range m.row {
		lost[w[0]] = lost[w[0]] || i >= len(keep) || !keep[i]
		if !lost[w[0]] {
			m.arrived[w[0]] = w[1]
		}
	}
	m.row, m.dead, m.arm, m.fail = nil, false, -1, -1
}

// P2.2 to P2.6: whatever is called, the disk is as its words say.
func TestModel(t *testing.T) {
	rnd := rand.New(rand.NewSource(2))
	for round := range 200 {
		n := 1 + rnd.Intn(5)
		d, m := made(t, n), &model{arrived: make([]int, n), arm: -1, fail: -1}
		for step := range 60 {
			var got, want api.Errno
			switch k := rnd.Intn(12); k {
			case 0, 1, 2, 3, 4:
				i, x := rnd.Intn(n), 1+rnd.Intn(200)
				got, want = d.Write(i, block(x)), m.call(true, func() { m.row = append(m.row, [2]int{i, x}) })
			case 5, 6:
				i := rnd.Intn(n)
				b, err := d.Read(i)
				got, want = err, m.call(false, func() {
					if b != block(m.shows()[i]) {
						t.Fatalf("Read(%d): %v", i, b)
					}
				})
			case 7:
				dead := m.dead || m.arm == 0
				got, want = d.Sync(), m.call(true, func() {
					if !dead {
						m.arrived, m.row = m.shows(), nil
					}
				})
			case 8:
				x := rnd.Intn(8) - 1
				got = d.Arm(x)
				if want = api.ErrDead; !m.dead {
					m.arm, want = x, api.OK
				}
			case 9:
				x := rnd.Intn(8) - 1
				got = d.Fail(x)
				if want = api.ErrDead; !m.dead {
					m.fail, want = x, api.OK
				}
			default:
				if !m.dead && rnd.Intn(3) > 0 {
					continue
				}
				keep := make([]bool, rnd.Intn(len(m.row)+3))
				for i := range keep {
					keep[i] = rnd.Intn(3) > 0
				}
				got = d.Crash(keep)
				m.crash(keep)
			}
			var row []int
			for _, w := range m.row {
				row = append(row, w[0])
			}
			if got != want || d.Ops() != m.ops || d.Dead() != m.dead || !slices.Equal(d.Pending(), row) {
				t.Fatalf("round %d, step %d: %d, not %d; ops %d, %d; %v, %v", round, step, got, want, d.Ops(), m.ops, d.Pending(), row)
			}
			if !m.dead && !slices.Equal(shows(t, d), m.shows()) {
				t.Fatalf("round %d, step %d: shows %v, not %v", round, step, shows(t, d), m.shows())
			}
		}
	}
}

// P2.6: by keeping more no sector shows an older block.
func TestKeepMore(t *testing.T) {
	rnd := rand.New(rand.NewSource(3))
	for range 200 {
		d := made(t, 3)
		n := 1 + rnd.Intn(10)
		for i := range n {
			d.Write(rnd.Intn(3), block(i+1))
		}
		keep := make([]bool, n)
		for i := range keep {
			keep[i] = rnd.Intn(2) > 0
		}
		less, more := d.Copy(), d.Copy()
		less.Crash(keep)
		keep[rnd.Intn(n)] = true
		more.Crash(keep)
		a, b := shows(t, less), shows(t, more)
		for i := range a {
			if a[i] > b[i] {
				t.Errorf("sector %d: %d, and by keeping more %d", i, a[i], b[i])
			}
		}
		twice := more.Copy()
		twice.Crash(nil)
		if !slices.Equal(shows(t, twice), b) {
			t.Errorf("a crash behind a crash changes something")
		}
	}
}
