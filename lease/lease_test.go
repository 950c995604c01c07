package lease_test

import (
	"math"
	"math/rand"
	"testing"

	"headrace/api"
	"headrace/lease"
)

func of(epoch uint64, holder int, until int64) api.Lease {
	return api.Lease{Epoch: epoch, Holder: holder, Until: until}
}

var (
	none  = api.Lease{}
	wrong = []api.Lease{
		of(0, 1, 0), of(0, 0, 1), of(0, 0, -1), of(1, 0, 5), of(1, 4, 5), of(1, -1, 5), of(1, 1, -1), of(1, 1, api.MaxTick+1), of(api.MaxEpoch+1, 1, 5), of(math.MaxUint64, 1, 5),
	}
)

const latest = api.MaxTick - api.MaxSpan

// P21.1, P21.4: Check; of what may not be.
func TestCheck(t *testing.T) {
	for _, l := range []api.Lease{none, of(1, 1, 0), of(api.MaxEpoch, 3, api.MaxTick)} {
		if err := lease.Check(l); err != api.OK {
			t.Errorf("Check(%v): %d", l, err)
		}
	}
	for _, l := range wrong {
		a, err := lease.Acquire(l, 9, -1, 0)
		b, err2 := lease.Renew(l, 9, 0, -1, 0)
		c, err3 := lease.Yield(l, 9, 0, -1)
		for i, err := range []api.Errno{lease.Check(l), err, err2, err3} {
			if err != api.ErrLease {
				t.Errorf("call %d of %v: %d", i, l, err)
			}
		}
		if a != none || b != none || c != none {
			t.Errorf("something beside an error, of %v", l)
		}
		if lease.Holds(l, l.Holder, l.Epoch, 0) || !lease.Stale(l, l.Epoch) || !lease.Stale(l, math.MaxUint64) || lease.Left(l, 0) != 0 {
			t.Errorf("told of %v", l)
		}
	}
}

// The chapter's examples.
func TestExamples(t *testing.T) {
	l, err := lease.Acquire(none, 1, 10, 5)
	if err != api.OK || l != of(1, 1, 15) {
		t.Errorf("Acquire: %v %d", l, err)
	}
	if x, err := lease.Acquire(l, 2, 14, 5); err != api.ErrHeld || x != none {
		t.Errorf("Acquire: %d", err)
	}
	l, err = lease.Acquire(l, 2, 15, 5)
	if err != api.OK || l != of(2, 2, 20) {
		t.Errorf("Acquire: %v %d", l, err)
	}
	if x, err := lease.Renew(l, 1, 1, 16, 5); err != api.ErrStale || x != none {
		t.Errorf("Renew: %d", err)
	}
	l, err = lease.Renew(l, 2, 2, 16, 2)
	if err != api.OK || l != of(2, 2, 20) {
		t.Errorf("Renew: %v %d", l, err)
	}
	l, err = lease.Renew(l, 2, 2, 17, 9)
	if err != api.OK || l != of(2, 2, 26) {
		t.Errorf("Renew: %v %d", l, err)
	}
	l, err = lease.Yield(l, 2, 2, 18)
	if err != api.OK || l != of(2, 2, 18) {
		t.Errorf("Yield: %v %d", l, err)
	}
	if x, err := lease.Renew(l, 2, 2, 18, 5); err != api.ErrLate || x != none || lease.Left(l, 18) != 0 {
		t.Errorf("Renew: %d", err)
	}
}

// P21.2: Acquire.
func TestAcquire(t *testing.T) {
	for i, x := range []struct {
		l         api.Lease
		who       int
		now, span int64
		want      api.Lease
		err       api.Errno
	}{
		{none, 3, 0, 1, of(1, 3, 1), api.OK}, {none, 1, latest, api.MaxSpan, of(1, 1, api.MaxTick), api.OK},
		{none, 0, 0, 1, none, api.ErrArg}, {none, 4, 0, 1, none, api.ErrArg}, {none, 1, -1, 1, none, api.ErrArg}, {none, 1, latest + 1, 1, none, api.ErrArg}, {none, 1, 0, 0, none, api.ErrArg}, {none, 1, 0, api.MaxSpan + 1, none, api.ErrArg}, {none, 1, math.MaxInt64, math.MaxInt64, none, api.ErrArg},
		{of(4, 1, 9), 1, 8, 3, none, api.ErrHeld}, {of(4, 1, 9), 1, 9, 3, of(5, 1, 12), api.OK}, {of(api.MaxEpoch, 1, 9), 1, 9, 3, none, api.ErrFull}, {of(api.MaxEpoch, 1, 9), 1, 8, 3, none, api.ErrHeld}, {of(api.MaxEpoch-1, 1, 9), 2, 9, 3, of(api.MaxEpoch, 2, 12), api.OK},
		{of(4, 1, 9), 0, 8, 3, none, api.ErrArg},
	} {
		if got, err := lease.Acquire(x.l, x.who, x.now, x.span); err != x.err || got != x.want {
			t.Errorf("Acquire %d: %v %d", i, got, err)
		}
	}
}

// P21.3: Renew, Yield.
func TestRenew(t *testing.T) {
	l := of(4, 2, 9)
	for i, x := range []struct {
		l     api.Lease
		who   int
		epoch uint64
		now   int64
		err   api.Errno
	}{
		{l, 2, 4, 8, api.OK}, {l, 2, 4, 0, api.OK}, {l, 2, 4, 9, api.ErrLate}, {l, 1, 4, 8, api.ErrStale}, {l, 2, 3, 8, api.ErrStale}, {l, 2, 5, 8, api.ErrStale}, {l, 1, 3, 9, api.ErrStale},
		{l, 0, 4, 8, api.ErrArg}, {l, 4, 4, 8, api.ErrArg}, {l, 2, 4, -1, api.ErrArg}, {l, 2, 4, latest + 1, api.ErrArg}, {none, 1, 0, 0, api.ErrStale}, {none, 1, 1, 0, api.ErrStale},
	} {
		renewed, yielded := none, none
		if x.err == api.OK {
			renewed, yielded = of(4, 2, max(9, x.now+5)), of(4, 2, x.now)
		}
		if got, err := lease.Renew(x.l, x.who, x.epoch, x.now, 5); err != x.err || got != renewed {
			t.Errorf("Renew %d: %v %d", i, got, err)
		}
		if got, err := lease.Yield(x.l, x.who, x.epoch, x.now); err != x.err || got != yielded {
			t.Errorf("Yield %d: %v %d", i, got, err)
		}
	}
	for _, span := range []int64{0, -1, api.MaxSpan + 1, math.MaxInt64} {
		if got, err := lease.Renew(l, 2, 4, 8, span); err != api.ErrArg || got != none {
			t.Errorf("Renew by %d: %d", span, err)
		}
	}
}

// P21.4: Holds, Stale, Left.
func TestTold(t *testing.T) {
	l := of(4, 2, 9)
	for _, x := range []struct {
		who   int
		epoch uint64
		now   int64
		want  bool
	}{{2, 4, 0, true}, {2, 4, 8, true}, {2, 4, 9, false}, {1, 4, 8, false}, {2, 3, 8, false}, {2, 5, 8, false}} {
		if got := lease.Holds(l, x.who, x.epoch, x.now); got != x.want {
			t.Errorf("Holds(%d, %d, %d): %v", x.who, x.epoch, x.now, got)
		}
	}
	if lease.Holds(none, 0, 0, 0) || lease.Holds(none, 1, 0, 0) {
		t.Errorf("nobody's lease is held")
	}
	for epoch, want := range map[uint64]bool{0: true, 3: true, 4: false, 5: false} {
		if got := lease.Stale(l, epoch); got != want {
			t.Errorf("Stale(%d): %v", epoch, got)
		}
	}
	if lease.Stale(none, 0) {
		t.Errorf("the epoch 0 is over")
	}
	for now, want := range map[int64]int64{0: 9, 8: 1, 9: 0, 10: 0, -1: 9, math.MinInt64: 9, math.MaxInt64: 0} {
		if got := lease.Left(l, now); got != want {
			t.Errorf("Left(%d): %d", now, got)
		}
	}
	if lease.Left(none, 0) != 0 || lease.Left(none, -5) != 0 {
		t.Errorf("Left of nobody's")
	}
}

// P21.5: what follows.
func TestFollows(t *testing.T) {
	rnd := rand.New(rand.NewSource(21))
	type holding struct {
		who   int
		epoch uint64
	}
	for range 200 {
		var l api.Lease
		var now int64
		lost := map[holding]bool{}
		var last uint64
		for range 100 {
			now += int64(rnd.Intn(5))
			who, epoch, span := 1+rnd.Intn(3), uint64(rnd.Intn(int(last)+2)), int64(1+rnd.Intn(12))
			next, err := l, api.OK
			switch rnd.Intn(4) {
			case 0:
				next, err = lease.Acquire(l, who, now, span)
				if err == api.OK && (next.Epoch <= last || !lease.Holds(next, who, next.Epoch, now)) {
					t.Fatalf("acquired %v behind %v", next, l)
				}
			case 1:
				next, err = lease.Renew(l, who, epoch, now, span)
			case 2:
				if rnd.Intn(3) == 0 {
					next, err = lease.Yield(l, who, epoch, now)
				}
			}
			if err == api.OK {
				l = next
				last = l.Epoch
			}
			if lease.Check(l) != api.OK {
				t.Fatalf("may not be: %v", l)
			}
			holders := 0
			for who := 1; who <= 3; who++ {
				for epoch := uint64(0); epoch <= last+1; epoch++ {
					if !lease.Holds(l, who, epoch, now) {
						lost[holding{who, epoch}] = lost[holding{who, epoch}] || epoch <= last
						continue
					}
					holders++
					if lost[holding{who, epoch}] {
						t.Fatalf("%d holds it again, with %d", who, epoch)
					}
					if lease.Stale(l, epoch) || lease.Left(l, now) < 1 {
						t.Fatalf("%v is held, and stale", l)
					}
				}
			}
			if holders > 1 || (holders == 1) != (lease.Left(l, now) > 0) {
				t.Fatalf("%d hold %v", holders, l)
			}
		}
	}
}
