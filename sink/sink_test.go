package sink_test

import (
	"math"
	"math/rand"
	"slices"
	"testing"

	"headrace/api"
	"headrace/sink"
	"headrace/txlog"
)

func name(sub, attempt, serial int) api.TxName {
	return api.TxName{Sink: sub, Attempt: attempt, Serial: serial}
}

func rec(key int, value int64) api.Record { return api.Record{Source: 1, Key: key, Value: value} }

func sinkOf(sub, attempt, serial int, open bool, ready ...api.TxName) api.Sink {
	return api.Sink{Sub: sub, Attempt: attempt, Serial: serial, Open: open, Ready: ready}
}

func act(kind int, n api.TxName, r ...api.Record) api.TxAct {
	a := api.TxAct{Kind: kind, Name: n}
	if len(r) > 0 {
		a.Record = r[0]
	}
	return a
}

// many tells names of the sub 1, of the attempt 1.
func many(n int) (l []api.TxName) {
	for i := range n {
		l = append(l, name(1, 1, 1+i))
	}
	return l
}

var (
	none = api.Sink{}
	x, y = rec(3, 5), rec(3, 6)
)

// P17.1: Check; what may not be is refused ahead of all else.
func TestCheck(t *testing.T) {
	for _, s := range []api.Sink{
		sinkOf(0, 1, 0, false), sinkOf(15, api.MaxAttempt, api.MaxAttempt, true), sinkOf(1, 2, 0, false, many(24)...),
		sinkOf(1, 1, 2, false, name(1, 1, 1), name(1, 1, 2)), sinkOf(1, 1, 2, true, name(1, 1, 1)), sinkOf(1, 3, 1, false, name(1, 1, api.MaxAttempt), name(1, 2, 5), name(1, 3, 1)),
	} {
		if err := sink.Check(s); err != api.OK {
			t.Errorf("Check(%v): %d", s, err)
		}
	}
	for _, s := range []api.Sink{
		none, sinkOf(-1, 1, 0, false), sinkOf(16, 1, 0, false), sinkOf(0, 0, 0, false), sinkOf(0, api.MaxAttempt+1, 0, false), sinkOf(0, 1, -1, false), sinkOf(0, 1, api.MaxAttempt+1, false), sinkOf(0, 1, 0, true),
		sinkOf(1, 2, 0, false, many(25)...), sinkOf(1, 2, 0, false, name(1, 1, 2), name(1, 1, 1)), sinkOf(1, 2, 0, false, name(1, 1, 1), name(1, 1, 1)),
		sinkOf(1, 2, 0, false, name(2, 1, 1)), sinkOf(1, 2, 1, false, name(1, 3, 1)), sinkOf(1, 2, 1, false, name(1, 2, 2)), sinkOf(1, 2, 1, true, name(1, 2, 1)), sinkOf(1, 2, 0, false, name(1, 2, 1)),
		sinkOf(1, 2, 0, false, name(1, 0, 1)), sinkOf(1, 2, 0, false, name(1, 1, 0)), sinkOf(1, 2, 0, false, name(1, 1, api.MaxAttempt+1)),
	} {
		a, acts, err := sink.Write(s, rec(99, 0))
		b, acts2, names, err2 := sink.Barrier(s)
		c, err3 := sink.Told(s, nil)
		n, ok := sink.Name(s)
		if sink.Check(s) != api.ErrSink || err != api.ErrSink || err2 != api.ErrSink || err3 != api.ErrSink || n != (api.TxName{}) || ok {
			t.Errorf("of %v: %d %d %d", s, err, err2, err3)
		}
		if !sink.Same(a, none) || !sink.Same(b, none) || !sink.Same(c, none) || len(acts)+len(acts2)+len(names) > 0 {
			t.Errorf("something beside an error, of %v", s)
		}
	}
}

// P17.1: Same, New.
func TestNew(t *testing.T) {
	a := sinkOf(1, 2, 3, true, many(2)...)
	for _, b := range []api.Sink{none, sinkOf(2, 2, 3, true, many(2)...), sinkOf(1, 1, 3, true, many(2)...), sinkOf(1, 2, 2, true, many(2)...), sinkOf(1, 2, 3, false, many(2)...), sinkOf(1, 2, 3, true, many(1)...)} {
		if sink.Same(a, b) || !sink.Same(b, b) {
			t.Errorf("Same: %v", b)
		}
	}
	if !sink.Same(none, api.Sink{Ready: []api.TxName{}}) {
		t.Errorf("nil and empty")
	}
	for _, r := range []struct {
		sub, attempt int
		ready        []api.TxName
		err          api.Errno
	}{
		{1, 2, many(1), api.OK}, {0, 1, nil, api.OK}, {15, api.MaxAttempt, nil, api.OK}, {1, 2, many(24), api.OK},
		{1, 1, many(1), api.ErrSink}, {1, 2, many(25), api.ErrSink}, {2, 2, many(1), api.ErrSink}, {1, 2, []api.TxName{name(1, 1, 2), name(1, 1, 1)}, api.ErrSink}, {1, 2, []api.TxName{{}}, api.ErrSink},
		{-1, 1, many(1), api.ErrArg}, {16, 1, nil, api.ErrArg}, {0, 0, many(1), api.ErrArg}, {0, api.MaxAttempt + 1, nil, api.ErrArg}, {math.MaxInt, math.MinInt, nil, api.ErrArg},
	} {
		s, err := sink.New(r.sub, r.attempt, r.ready)
		want := none
		if r.err == api.OK {
			want = sinkOf(r.sub, r.attempt, 0, false, r.ready...)
		}
		if err != r.err || !sink.Same(s, want) {
			t.Errorf("New(%d, %d, %v): %v %d", r.sub, r.attempt, r.ready, s, err)
		}
	}
}

// The chapter's examples; P17.2, P17.3, P17.4.
func TestExamples(t *testing.T) {
	s, _ := sink.New(1, 1, nil)
	first, second := name(1, 1, 1), name(1, 1, 2)
	s, acts, err := sink.Write(s, x)
	if err != api.OK || !slices.Equal(acts, []api.TxAct{act(api.ActOpen, first), act(api.ActWrite, first, x)}) || !sink.Same(s, sinkOf(1, 1, 1, true)) {
		t.Errorf("Write: %v %v %d", s, acts, err)
	}
	s, acts, err = sink.Write(s, y)
	if err != api.OK || !slices.Equal(acts, []api.TxAct{act(api.ActWrite, first, y)}) {
		t.Errorf("Write: %v %d", acts, err)
	}
	if n, ok := sink.Name(s); n != first || !ok {
		t.Errorf("Name: %v %v", n, ok)
	}
	s, acts, names, err := sink.Barrier(s)
	if err != api.OK || !slices.Equal(acts, []api.TxAct{act(api.ActReady, first)}) || !slices.Equal(names, []api.TxName{first}) || !sink.Same(s, sinkOf(1, 1, 1, false, first)) {
		t.Errorf("Barrier: %v %v %v %d", s, acts, names, err)
	}
	if n, ok := sink.Name(s); n != (api.TxName{}) || ok {
		t.Errorf("Name: %v %v", n, ok)
	}
	s, acts, names, err = sink.Barrier(s)
	if err != api.OK || len(acts) > 0 || !slices.Equal(names, []api.TxName{first}) {
		t.Errorf("Barrier again: %v %v %d", acts, names, err)
	}
	s, acts, _ = sink.Write(s, x)
	if !slices.Equal(acts, []api.TxAct{act(api.ActOpen, second), act(api.ActWrite, second, x)}) {
		t.Errorf("Write: %v", acts)
	}
	s, err = sink.Told(s, []api.TxName{second, first, name(9, 9, 9), {}})
	if err != api.OK || !sink.Same(s, sinkOf(1, 1, 2, true)) {
		t.Errorf("Told: %v %d", s, err)
	}
	s, acts, names, err = sink.Barrier(s)
	if err != api.OK || !slices.Equal(acts, []api.TxAct{act(api.ActReady, second)}) || !slices.Equal(names, []api.TxName{second}) {
		t.Errorf("Barrier: %v %v %d", acts, names, err)
	}
}

// P17.2, P17.3: what is refused for want of room.
func TestFull(t *testing.T) {
	if s, acts, err := sink.Write(sinkOf(1, 1, api.MaxAttempt, false), rec(32, 0)); err != api.ErrRecord || !sink.Same(s, none) || len(acts) > 0 {
		t.Errorf("Write of no record: %d", err)
	}
	if s, acts, err := sink.Write(sinkOf(1, 1, api.MaxAttempt, false), x); err != api.ErrFull || !sink.Same(s, none) || len(acts) > 0 {
		t.Errorf("Write with no serial: %d", err)
	}
	if _, acts, err := sink.Write(sinkOf(1, 1, api.MaxAttempt, true), x); err != api.OK || len(acts) != 1 {
		t.Errorf("Write to the last one: %d", err)
	}
	if s, acts, err := sink.Write(sinkOf(1, 1, api.MaxAttempt-1, false), x); err != api.OK || len(acts) != 2 || s.Serial != api.MaxAttempt {
		t.Errorf("Write of the last serial: %d", err)
	}
	if s, acts, names, err := sink.Barrier(sinkOf(1, 2, 1, true, many(24)...)); err != api.ErrFull || !sink.Same(s, none) || len(acts)+len(names) > 0 {
		t.Errorf("Barrier with no room: %d", err)
	}
	if _, _, names, err := sink.Barrier(sinkOf(1, 2, 1, false, many(24)...)); err != api.OK || len(names) != 24 {
		t.Errorf("Barrier with nothing open: %d", err)
	}
	if s, _, names, err := sink.Barrier(sinkOf(1, 2, 1, true, many(23)...)); err != api.OK || !slices.Equal(names, append(many(23), name(1, 2, 1))) || !slices.Equal(s.Ready, names) {
		t.Errorf("Barrier with room for one: %d", err)
	}
}

// P17.5: Do.
func TestDo(t *testing.T) {
	n := name(1, 1, 1)
	good := []api.TxAct{act(api.ActOpen, n), act(api.ActWrite, n, x), act(api.ActWrite, n, y), act(api.ActReady, n)}
	l, count, err := sink.Do(api.TxLog{}, good)
	want := api.TxLog{Txs: []api.Tx{{Name: n, State: api.TxReady, Records: []api.Record{x, y}}}}
	if err != api.OK || count != 4 || !txlog.Same(l, want) {
		t.Errorf("Do: %v %d %d", l, count, err)
	}
	if l, count, err := sink.Do(want, nil); err != api.OK || count != 0 || !txlog.Same(l, want) {
		t.Errorf("Do of nothing: %v %d %d", l, count, err)
	}
	bad := api.TxLog{Done: []api.TxName{n, n}}
	for _, r := range []struct {
		name  string
		l     api.TxLog
		acts  []api.TxAct
		place int
		err   api.Errno
	}{
		{"kind 0", api.TxLog{}, []api.TxAct{{Name: n}}, 0, api.ErrArg},
		{"kind 4", api.TxLog{}, []api.TxAct{good[0], act(4, n)}, 1, api.ErrArg},
		{"kind -1", bad, []api.TxAct{act(-1, n)}, 0, api.ErrArg},
		{"a record that does not count", api.TxLog{}, []api.TxAct{act(api.ActOpen, n, x)}, 0, api.ErrArg},
		{"a record that does not count", api.TxLog{}, []api.TxAct{good[0], act(api.ActReady, n, x)}, 1, api.ErrArg},
		{"a value that does not count", api.TxLog{}, []api.TxAct{act(api.ActOpen, n, api.Record{Value: 1})}, 0, api.ErrArg},
		{"again", api.TxLog{}, append(slices.Clone(good), good[0]), 4, api.ErrThere},
		{"none", api.TxLog{}, good[1:], 0, api.ErrNone},
		{"ready", api.TxLog{}, append(slices.Clone(good), good[1]), 4, api.ErrReady},
		{"no record", api.TxLog{}, []api.TxAct{good[0], act(api.ActWrite, n, rec(32, 0))}, 1, api.ErrRecord},
		{"no name", api.TxLog{}, []api.TxAct{good[0], act(api.ActReady, name(1, 0, 1))}, 1, api.ErrArg},
		{"no log", bad, good, 0, api.ErrLog},
	} {
		if l, place, err := sink.Do(r.l, r.acts); err != r.err || place != r.place || !txlog.Same(l, api.TxLog{}) {
			t.Errorf("%s: %d %d", r.name, place, err)
		}
	}
}

// R3: what is handed in stays as it was, and is not shared.
func TestShares(t *testing.T) {
	room := append(make([]api.TxName, 0, 8), name(1, 1, 1), name(1, 1, 2))
	s := sinkOf(1, 3, 1, true)
	s.Ready = room
	a, _, _ := sink.Write(s, x)
	b, _, names, _ := sink.Barrier(s)
	c, _ := sink.Told(s, []api.TxName{name(1, 1, 1)})
	d, _ := sink.New(1, 3, room)
	names[0].Sink = 66
	if b.Ready[0] != name(1, 1, 1) {
		t.Errorf("Barrier's answers share")
	}
	for _, x := range []api.Sink{a, b, c, d} {
		for i := range x.Ready {
			x.Ready[i].Sink = 77
		}
	}
	if !slices.Equal(room[:3], []api.TxName{name(1, 1, 1), name(1, 1, 2), {}}) {
		t.Errorf("changed: %v", room[:3])
	}
	l := api.TxLog{Txs: []api.Tx{{Name: name(1, 1, 1), State: api.TxOpen, Records: []api.Record{x}}}, Done: []api.TxName{name(2, 1, 1)}, Log: []api.Record{y}}
	got, _, _ := sink.Do(l, nil)
	got.Txs[0].Records[0], got.Txs[0].State, got.Done[0].Sink, got.Log[0] = y, 2, 5, x
	if l.Txs[0].Records[0] != x || l.Txs[0].State != api.TxOpen || l.Done[0].Sink != 2 || l.Log[0] != y {
		t.Errorf("Do shares: %v", l)
	}
}

// P17.6: what follows.
func TestFollows(t *testing.T) {
	rnd := rand.New(rand.NewSource(17))
	for range 100 {
		var l api.TxLog
		s, _ := sink.New(3, 1, nil)
		var wrote, ahead []int64
		committed := 0
		for step := range 150 {
			switch rnd.Intn(6) {
			case 0:
				next, acts, names, err := sink.Barrier(s)
				if err != api.OK {
					t.Fatal(err)
				}
				s = next
				ahead = slices.Clone(wrote)
				if l, _, err = sink.Do(l, acts); err != api.OK {
					t.Fatalf("%v is refused: %d", acts, err)
				}
				if rnd.Intn(2) == 0 && len(names) < 8 {
					continue // told later
				}
				if l, err = txlog.Commit(l, names); err != api.OK {
					t.Fatal(err)
				}
				committed = len(ahead)
				if s, err = sink.Told(s, names); err != api.OK || len(s.Ready) > 0 {
					t.Fatalf("%v: %d", s, err)
				}
			case 1:
				if step%25 != 0 {
					continue
				}
				// Begun anew, with what is ready: what was not is written no more.
				n, open := sink.Name(s)
				next, err := sink.New(3, s.Attempt+1, s.Ready)
				if err != api.OK {
					t.Fatal(err)
				}
				if l, _, err = txlog.Abort(l, s.Ready); err != api.OK || open && txlog.State(l, n) != 0 {
					t.Fatal(err)
				}
				s, wrote = next, slices.Clone(ahead)
			default:
				r := rec(3, int64(step))
				next, acts, err := sink.Write(s, r)
				if err != api.OK || sink.Check(next) != api.OK {
					t.Fatal(err)
				}
				s, wrote = next, append(wrote, r.Value)
				if l, _, err = sink.Do(l, acts); err != api.OK {
					t.Fatalf("%v is refused: %d", acts, err)
				}
			}
			if got := txlog.Values(l, rec(3, 0)); !slices.Equal(got, wrote[:committed]) {
				t.Fatalf("committed %v, of %v", got, wrote)
			}
		}
	}
}
