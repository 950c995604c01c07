package txlog_test

import (
	"math"
	"math/rand"
	"slices"
	"testing"

	"headrace/api"
	"headrace/txlog"
)

func name(sink, attempt, serial int) api.TxName {
	return api.TxName{Sink: sink, Attempt: attempt, Serial: serial}
}

func rec(key int, value int64) api.Record { return api.Record{Source: 1, Key: key, Value: value} }

func tx(n api.TxName, state int, l ...api.Record) api.Tx {
	return api.Tx{Name: n, State: state, Records: l}
}

var (
	n, m = name(1, 1, 1), name(1, 1, 2)
	x, y = rec(3, 5), rec(3, 6)
	zero = api.TxLog{}
)

func many(k int) (l []api.TxName) {
	for i := range k {
		l = append(l, name(2, 1+i/10, 1+i%10))
	}
	return l
}

func open(k int) (l []api.Tx) {
	for _, n := range many(k) {
		l = append(l, tx(n, api.TxOpen))
	}
	return l
}

var wrong = []api.TxLog{
	{Txs: open(api.MaxTxs + 1)},
	{Done: many(api.MaxDone + 1)},
	{Log: make([]api.Record, api.MaxLog+1)},
	{Log: make([]api.Record, api.MaxLog), Txs: []api.Tx{tx(n, api.TxReady, x)}},
	{Txs: []api.Tx{tx(m, api.TxOpen), tx(n, api.TxOpen)}},
	{Txs: []api.Tx{tx(n, api.TxOpen), tx(n, api.TxOpen)}},
	{Txs: []api.Tx{tx(n, 0)}}, {Txs: []api.Tx{tx(n, 3)}}, {Txs: []api.Tx{tx(n, -1)}},
	{Txs: []api.Tx{tx(name(16, 1, 1), api.TxOpen)}}, {Txs: []api.Tx{tx(name(1, 0, 1), api.TxOpen)}},
	{Txs: []api.Tx{tx(n, api.TxOpen, rec(32, 0))}},
	{Txs: []api.Tx{tx(n, api.TxOpen)}, Done: []api.TxName{n}},
	{Done: []api.TxName{n, m, n}}, {Done: []api.TxName{name(1, 1, 0)}},
	{Log: []api.Record{rec(-1, 0)}},
}

// P16.1: Check; what may not be is refused ahead of all else.
func TestCheck(t *testing.T) {
	for _, l := range []api.TxLog{
		{}, {Txs: open(api.MaxTxs), Done: many(api.MaxDone)[api.MaxTxs:], Log: make([]api.Record, api.MaxLog)}, {Done: many(api.MaxDone)},
		{Txs: []api.Tx{tx(n, api.TxReady, x), tx(m, api.TxOpen, y)}, Done: []api.TxName{name(3, 1, 1), name(2, 1, 1)}, Log: []api.Record{y, x}},
	} {
		if err := txlog.Check(l); err != api.OK {
			t.Errorf("Check(%v): %d", l, err)
		}
	}
	bad := name(-1, 0, 0)
	for i, l := range wrong {
		a, err := txlog.Open(l, bad)
		b, err2 := txlog.Write(l, bad, nil)
		c, err3 := txlog.Ready(l, bad)
		d, err4 := txlog.Commit(l, []api.TxName{bad})
		e, gone, err5 := txlog.Abort(l, []api.TxName{bad})
		for j, err := range []api.Errno{txlog.Check(l), err, err2, err3, err4, err5} {
			if err != api.ErrLog {
				t.Errorf("call %d of log %d: %d", j, i, err)
			}
		}
		for _, x := range []api.TxLog{a, b, c, d, e} {
			if !txlog.Same(x, zero) || gone != 0 {
				t.Errorf("something beside an error, of log %d", i)
			}
		}
	}
}

// P16.1: CheckName, Compare.
func TestNames(t *testing.T) {
	rising := []api.TxName{name(0, 1, 1), name(0, 1, api.MaxAttempt), name(0, 2, 1), name(0, api.MaxAttempt, 1), name(1, 1, 1), name(15, api.MaxAttempt, api.MaxAttempt)}
	for i, a := range rising {
		if err := txlog.CheckName(a); err != api.OK {
			t.Errorf("CheckName(%v): %d", a, err)
		}
		for j, b := range rising {
			want := 0
			if i < j {
				want = -1
			} else if i > j {
				want = 1
			}
			if got := txlog.Compare(a, b); got != want {
				t.Errorf("Compare(%v, %v): %d", a, b, got)
			}
		}
	}
	if txlog.Compare(name(math.MinInt, 0, 0), name(math.MaxInt, 0, 0)) != -1 {
		t.Errorf("Compare of what may not be")
	}
	for _, a := range []api.TxName{name(-1, 1, 1), name(16, 1, 1), name(0, 0, 1), name(0, api.MaxAttempt+1, 1), name(0, 1, 0), name(0, 1, api.MaxAttempt+1), name(0, -1, 1), name(0, 1, -1)} {
		if err := txlog.CheckName(a); err != api.ErrArg {
			t.Errorf("CheckName(%v): %d", a, err)
		}
		l, err := txlog.Open(zero, a)
		_, err2 := txlog.Write(zero, a, nil)
		_, err3 := txlog.Ready(zero, a)
		_, err4 := txlog.Commit(zero, []api.TxName{a})
		_, _, err5 := txlog.Abort(zero, []api.TxName{n, a})
		for j, err := range []api.Errno{err, err2, err3, err4, err5} {
			if err != api.ErrArg || !txlog.Same(l, zero) {
				t.Errorf("call %d of %v: %d", j, a, err)
			}
		}
	}
}

// P16.1: Same.
func TestSame(t *testing.T) {
	a := api.TxLog{Txs: []api.Tx{tx(n, api.TxReady, x)}, Done: []api.TxName{m}, Log: []api.Record{y}}
	for _, b := range []api.TxLog{
		{}, {Txs: []api.Tx{tx(m, api.TxReady, x)}, Done: []api.TxName{m}, Log: []api.Record{y}}, {Txs: []api.Tx{tx(n, api.TxOpen, x)}, Done: []api.TxName{m}, Log: []api.Record{y}},
		{Txs: []api.Tx{tx(n, api.TxReady, y)}, Done: []api.TxName{m}, Log: []api.Record{y}}, {Txs: []api.Tx{tx(n, api.TxReady, x)}, Done: []api.TxName{n}, Log: []api.Record{y}}, {Txs: []api.Tx{tx(n, api.TxReady, x)}, Done: []api.TxName{m}, Log: []api.Record{x}},
	} {
		if txlog.Same(a, b) || !txlog.Same(b, b) {
			t.Errorf("Same: %v", b)
		}
	}
	if !txlog.Same(zero, api.TxLog{Txs: []api.Tx{}, Done: []api.TxName{}, Log: []api.Record{}}) {
		t.Errorf("nil and empty")
	}
}

// do opens, writes, makes ready, as the names and records say.
func do(t *testing.T, l api.TxLog, n api.TxName, ready bool, records ...api.Record) api.TxLog {
	t.Helper()
	l, err := txlog.Open(l, n)
	if err != api.OK {
		t.Fatalf("Open(%v): %d", n, err)
	}
	if l, err = txlog.Write(l, n, records); err != api.OK {
		t.Fatalf("Write(%v): %d", n, err)
	}
	if ready {
		if l, err = txlog.Ready(l, n); err != api.OK {
			t.Fatalf("Ready(%v): %d", n, err)
		}
	}
	return l
}

// The chapter's examples.
func TestExamples(t *testing.T) {
	l := do(t, zero, n, false, x)
	if got, err := txlog.Commit(l, []api.TxName{n}); err != api.ErrReady || !txlog.Same(got, zero) {
		t.Errorf("Commit of an open one: %d", err)
	}
	l, err := txlog.Ready(l, n)
	if err != api.OK {
		t.Errorf("Ready: %d", err)
	}
	if got, err := txlog.Write(l, n, []api.Record{y}); err != api.ErrReady || !txlog.Same(got, zero) {
		t.Errorf("Write to a ready one: %d", err)
	}
	l = do(t, l, m, true, y)
	if _, err := txlog.Commit(l, []api.TxName{m}); err != api.ErrAhead {
		t.Errorf("Commit of the second one: %d", err)
	}
	l, err = txlog.Commit(l, []api.TxName{n, m})
	if err != api.OK || !slices.Equal(txlog.Values(l, rec(3, 99)), []int64{5, 6}) {
		t.Errorf("Commit of both: %v %d", l, err)
	}
	again, err := txlog.Commit(l, []api.TxName{n})
	if err != api.OK || !txlog.Same(again, l) {
		t.Errorf("Commit again: %d", err)
	}
	if _, err := txlog.Open(l, n); err != api.ErrThere {
		t.Errorf("Open of what is committed: %d", err)
	}
	two := name(1, 2, 1)
	l = do(t, l, two, false)
	l, gone, err := txlog.Abort(l, nil)
	if err != api.OK || gone != 1 || txlog.State(l, two) != 0 || txlog.State(l, n) != 3 {
		t.Errorf("Abort: %d %d", gone, err)
	}
	if _, err := txlog.Commit(l, []api.TxName{m, n}); err != api.ErrArg {
		t.Errorf("Commit of names that do not rise: %d", err)
	}
	if _, err := txlog.Commit(l, []api.TxName{n, n}); err != api.ErrArg {
		t.Errorf("Commit of one twice: %d", err)
	}
	if _, err := txlog.Commit(l, []api.TxName{name(2, 1, 1)}); err != api.ErrNone {
		t.Errorf("Commit of none: %d", err)
	}
}

// P16.2: Open, Write, Ready.
func TestWrite(t *testing.T) {
	l := api.TxLog{Txs: open(api.MaxTxs)}
	if got, err := txlog.Open(l, n); err != api.ErrFull || !txlog.Same(got, zero) {
		t.Errorf("Open of one more: %d", err)
	}
	if _, err := txlog.Open(l, many(3)[2]); err != api.ErrThere {
		t.Errorf("Open again: %d", err)
	}
	l = api.TxLog{Txs: []api.Tx{tx(n, api.TxOpen, x), tx(name(3, 1, 1), api.TxReady)}}
	got, err := txlog.Open(l, m)
	if want := (api.TxLog{Txs: []api.Tx{tx(n, api.TxOpen, x), tx(m, api.TxOpen), tx(name(3, 1, 1), api.TxReady)}}); err != api.OK || !txlog.Same(got, want) {
		t.Errorf("Open: %v %d", got, err)
	}
	got, err = txlog.Write(l, n, []api.Record{y, x})
	if want := (api.TxLog{Txs: []api.Tx{tx(n, api.TxOpen, x, y, x), tx(name(3, 1, 1), api.TxReady)}}); err != api.OK || !txlog.Same(got, want) {
		t.Errorf("Write: %v %d", got, err)
	}
	long := make([]api.Record, api.MaxLog)
	for _, r := range []struct {
		n       api.TxName
		records []api.Record
		err     api.Errno
	}{
		{m, []api.Record{rec(99, 0)}, api.ErrNone}, {name(3, 1, 1), []api.Record{rec(99, 0)}, api.ErrReady}, {n, append(slices.Clone(long), rec(99, 0)), api.ErrRecord}, {n, long, api.ErrFull}, {n, long[1:], api.OK}, {n, nil, api.OK},
	} {
		if got, err := txlog.Write(l, r.n, r.records); err != r.err || err != api.OK && !txlog.Same(got, zero) {
			t.Errorf("Write(%v) of %d: %d", r.n, len(r.records), err)
		}
	}
	// Committed records count, too.
	full := api.TxLog{Txs: []api.Tx{tx(n, api.TxOpen)}, Log: long}
	if _, err := txlog.Write(full, n, []api.Record{x}); err != api.ErrFull {
		t.Errorf("Write to a full log: %d", err)
	}
	for _, r := range []struct {
		n    api.TxName
		err  api.Errno
		want api.TxLog
	}{
		{n, api.OK, api.TxLog{Txs: []api.Tx{tx(n, api.TxReady, x), tx(name(3, 1, 1), api.TxReady)}}}, {name(3, 1, 1), api.OK, l}, {m, api.ErrNone, zero},
	} {
		if got, err := txlog.Ready(l, r.n); err != r.err || !txlog.Same(got, r.want) {
			t.Errorf("Ready(%v): %v %d", r.n, got, err)
		}
	}
}

// P16.3: what Commit refuses, name by name.
func TestCommit(t *testing.T) {
	other := name(3, 1, 1)
	l := api.TxLog{
		Txs:  []api.Tx{tx(name(1, 2, 1), api.TxReady, x), tx(name(1, 2, 2), api.TxOpen, y), tx(name(1, 2, 3), api.TxReady, y), tx(other, api.TxReady, rec(4, 4)), tx(name(4, 1, 1), api.TxOpen)},
		Done: []api.TxName{n, m}, Log: []api.Record{y},
	}
	for _, r := range []struct {
		names []api.TxName
		err   api.Errno
	}{
		{[]api.TxName{name(1, 1, 9), name(1, 2, 2)}, api.ErrNone},
		{[]api.TxName{name(1, 2, 2), name(5, 2, 2)}, api.ErrReady},
		{[]api.TxName{name(1, 2, 3), name(5, 2, 2)}, api.ErrAhead},
		{[]api.TxName{other, name(1, 2, 2)}, api.ErrArg},
		{[]api.TxName{other, name(4, 1, 1)}, api.ErrReady},
		{[]api.TxName{n, name(1, 2, 3)}, api.ErrAhead},
	} {
		if got, err := txlog.Commit(l, r.names); err != r.err || !txlog.Same(got, zero) {
			t.Errorf("Commit(%v): %d", r.names, err)
		}
	}
	// One that is open ahead does not hinder; those that are done are passed over.
	got, err := txlog.Commit(l, []api.TxName{n, name(1, 2, 1), name(1, 2, 3), other})
	want := api.TxLog{
		Txs:  []api.Tx{tx(name(1, 2, 2), api.TxOpen, y), tx(name(4, 1, 1), api.TxOpen)},
		Done: []api.TxName{n, m, name(1, 2, 1), name(1, 2, 3), other}, Log: []api.Record{y, x, y, rec(4, 4)},
	}
	if err != api.OK || !txlog.Same(got, want) {
		t.Errorf("Commit: %v %d", got, err)
	}
	if got, err := txlog.Commit(l, nil); err != api.OK || !txlog.Same(got, l) {
		t.Errorf("Commit of nothing: %d", err)
	}
	done := many(api.MaxDone)
	l = api.TxLog{Txs: []api.Tx{tx(n, api.TxReady), tx(m, api.TxReady)}, Done: done[1:]}
	if got, err := txlog.Commit(l, []api.TxName{n, m}); err != api.ErrFull || !txlog.Same(got, zero) {
		t.Errorf("Commit of two, with room for one: %d", err)
	}
	if got, err := txlog.Commit(l, []api.TxName{n}); err != api.OK || len(got.Done) != api.MaxDone {
		t.Errorf("Commit of one, with room for one: %d", err)
	}
	if _, err := txlog.Commit(api.TxLog{Done: done}, done[:5]); err != api.OK {
		t.Errorf("Commit of what is done: %d", err)
	}
}

// P16.4: Abort.
func TestAbort(t *testing.T) {
	l := api.TxLog{Txs: []api.Tx{tx(n, api.TxReady, x), tx(m, api.TxOpen, y), tx(name(3, 1, 1), api.TxReady)}, Done: []api.TxName{name(9, 9, 9)}, Log: []api.Record{x}}
	for _, r := range []struct {
		keep []api.TxName
		left []int
	}{
		{nil, nil}, {[]api.TxName{name(3, 1, 1), n}, []int{0, 2}}, {[]api.TxName{m, m, name(9, 9, 9), name(5, 5, 5)}, []int{1}}, {[]api.TxName{n, m, name(3, 1, 1)}, []int{0, 1, 2}},
	} {
		want := api.TxLog{Done: l.Done, Log: l.Log}
		for _, i := range r.left {
			want.Txs = append(want.Txs, l.Txs[i])
		}
		if got, gone, err := txlog.Abort(l, r.keep); err != api.OK || gone != 3-len(r.left) || !txlog.Same(got, want) {
			t.Errorf("Abort(%v): %v %d %d", r.keep, got, gone, err)
		}
	}
	if got, gone, err := txlog.Abort(l, []api.TxName{n, name(16, 1, 1)}); err != api.ErrArg || gone != 0 || !txlog.Same(got, zero) {
		t.Errorf("Abort but for none: %d", err)
	}
}

// P16.5: told, of whatever log.
func TestTold(t *testing.T) {
	l := api.TxLog{
		Txs:  []api.Tx{tx(n, api.TxReady, rec(3, 9)), tx(m, api.TxOpen), tx(name(1, 1, 3), api.TxReady), tx(name(2, 1, 1), api.TxReady)},
		Done: []api.TxName{name(3, 3, 3), name(3, 3, 2)}, Log: []api.Record{x, rec(4, 1), y, {Source: 2, Key: 3, Value: 8}},
	}
	if got := txlog.Values(l, rec(3, -1)); !slices.Equal(got, []int64{5, 6}) {
		t.Errorf("Values: %v", got)
	}
	for _, r := range []struct {
		n    api.TxName
		want int
	}{{n, api.TxReady}, {m, api.TxOpen}, {name(3, 3, 2), 3}, {name(3, 3, 1), 0}, {name(-1, 0, 0), 0}} {
		if got := txlog.State(l, r.n); got != r.want {
			t.Errorf("State(%v): %d", r.n, got)
		}
	}
	if got := txlog.Pending(l, 1); !slices.Equal(got, []api.TxName{n, name(1, 1, 3)}) {
		t.Errorf("Pending: %v", got)
	}
	if got := txlog.Pending(l, 3); len(got) > 0 {
		t.Errorf("Pending of another sink: %v", got)
	}
	l.Txs = append(l.Txs, tx(name(-5, 0, 0), api.TxReady))
	l.Done = append(l.Done, name(-6, 0, 0))
	l.Log = append(l.Log, rec(99, 7))
	if got := txlog.Values(l, rec(99, 0)); !slices.Equal(got, []int64{7}) || txlog.State(l, name(-5, 0, 0)) != api.TxReady || txlog.State(l, name(-6, 0, 0)) != 3 || len(txlog.Pending(l, -5)) != 1 {
		t.Errorf("of what may not be")
	}
}

// R3: what is handed in stays as it was, and is not shared.
func TestShares(t *testing.T) {
	room := append(make([]api.Record, 0, 8), x)
	l := api.TxLog{Txs: []api.Tx{{Name: n, State: api.TxOpen, Records: room}}, Done: append(make([]api.TxName, 0, 8), name(9, 9, 9)), Log: append(make([]api.Record, 0, 8), y)}
	was := api.TxLog{Txs: []api.Tx{tx(n, api.TxOpen, x)}, Done: []api.TxName{name(9, 9, 9)}, Log: []api.Record{y}}
	a, _ := txlog.Open(l, m)
	b, _ := txlog.Write(l, n, []api.Record{y})
	c, _ := txlog.Ready(l, n)
	d, _ := txlog.Commit(c, []api.TxName{n})
	e, _, _ := txlog.Abort(l, []api.TxName{n})
	for _, x := range []api.TxLog{a, b, c, d, e} {
		for i := range x.Txs {
			x.Txs[i].State = 7
			for j := range x.Txs[i].Records {
				x.Txs[i].Records[j].Key = 77
			}
		}
		for i := range x.Done {
			x.Done[i].Sink = 77
		}
		for i := range x.Log {
			x.Log[i].Key = 77
		}
	}
	if !txlog.Same(l, was) || room[:2][1] != (api.Record{}) || l.Done[:2][1] != (api.TxName{}) || l.Log[:2][1] != (api.Record{}) {
		t.Errorf("changed: %v", l)
	}
}

// P16.6: what follows.
func TestFollows(t *testing.T) {
	rnd := rand.New(rand.NewSource(16))
	for range 60 {
		var l api.TxLog
		wrote := map[api.TxName][]api.Record{}
		for step := range 250 {
			n := name(rnd.Intn(3), 1+step/100, 1+rnd.Intn(8))
			was := l
			next, err := l, api.OK
			switch rnd.Intn(9) {
			case 0, 1:
				if next, err = txlog.Open(l, n); err == api.OK {
					wrote[n] = nil
				}
			case 2, 3, 4:
				r := rec(rnd.Intn(4), int64(step))
				if next, err = txlog.Write(l, n, []api.Record{r}); err == api.OK {
					wrote[n] = append(wrote[n], r)
				}
			case 5, 6:
				next, err = txlog.Ready(l, n)
			case 7:
				names := txlog.Pending(l, rnd.Intn(3))
				if len(names) > 0 && rnd.Intn(2) > 0 {
					names = names[:1+rnd.Intn(len(names))]
				}
				next, err = txlog.Commit(l, names)
				if err != api.OK {
					t.Fatalf("Commit(%v) of %v: %d", names, l, err)
				}
				if again, err := txlog.Commit(next, names); err != api.OK || !txlog.Same(again, next) {
					t.Fatalf("committing twice: %d", err)
				}
			default:
				if rnd.Intn(8) == 0 {
					var gone int
					next, gone, err = txlog.Abort(l, []api.TxName{n})
					if gone != len(l.Txs)-len(next.Txs) || len(next.Txs) > 1 {
						t.Fatalf("Abort: %d", gone)
					}
				}
			}
			if err != api.OK {
				continue
			}
			l = next
			var all []api.Record
			for _, n := range l.Done {
				all = append(all, wrote[n]...)
			}
			if txlog.Check(l) != api.OK || !slices.Equal(l.Log, all) || len(l.Done) < len(was.Done) || !slices.Equal(l.Done[:len(was.Done)], was.Done) || !slices.Equal(l.Log[:len(was.Log)], was.Log) {
				t.Fatalf("%v behind %v", l, was)
			}
		}
	}
}
