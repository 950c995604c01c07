package frame_test

import (
	"bytes"
	"fmt"
	"math"
	"math/rand"
	"slices"
	"testing"

	"headrace/api"
	"headrace/frame"
	"headrace/graph"
	"headrace/plan"
	"headrace/sample"
	"headrace/snap"
	"headrace/sum"
)

func name(sink, attempt, serial int) api.TxName {
	return api.TxName{Sink: sink, Attempt: attempt, Serial: serial}
}

func rec(source, key int, value int64) api.Record {
	return api.Record{Source: source, Key: key, Value: value}
}

var (
	none = api.Msg{}
	work = api.Work{
		Graph: api.Graph{Ops: []api.Op{
			{Tag: api.OpSource, Width: 2, A: 3}, {Tag: api.OpReduce, Width: 1, Inputs: []int{0}}, {Tag: api.OpSink, Width: 1, Inputs: []int{1}},
		}},
		Inputs: []api.Input{{Source: 3, Records: []api.Record{rec(3, 5, -1), rec(3, 0, 2)}}},
	}
	laid = api.Laid{Work: work, Places: []api.Place{{Task: 0, Worker: 1}, {Task: 1, Worker: 4}, {Task: 2, Worker: 1}, {Task: 3, Worker: 2}}}
	end  = api.Elem{Kind: api.ElEnd}
)

// head makes a message of a Kind, from whom and to whom it goes.
func head(kind int) api.Msg {
	m := api.Msg{Kind: kind, From: 2, To: 4, Epoch: 258, Attempt: 3}
	switch kind {
	case api.MsgAck, api.MsgBeat, api.MsgFell:
		m.From, m.To = 4, 2
	case api.MsgData:
		m.From, m.To = 5, 7
	}
	return m
}

func with(m api.Msg, change func(m *api.Msg)) api.Msg {
	change(&m)
	return m
}

func deploy() api.Msg {
	return with(head(api.MsgDeploy), func(m *api.Msg) {
		m.Task, m.Laid = 2, laid
		m.Snap = api.Snap{Op: 1, Width: 1, Table: api.Table{Rows: []api.KeyCell{{Source: 3, Key: 5, Cell: api.Cell{Count: 1, Sum: -1}}}}}
	})
}

func data() api.Msg {
	return with(head(api.MsgData), func(m *api.Msg) {
		m.Task = 63
		m.Packet = api.Packet{Kind: api.PkData, Session: 3, Seq: 7, Elem: api.Elem{Kind: api.ElRecord, Record: rec(1, 2, 3)}}
	})
}

// all tells a message of each Kind that may be, and some more.
func all() []api.Msg {
	return []api.Msg{
		deploy(),
		head(api.MsgCancel),
		with(head(api.MsgTrigger), func(m *api.Msg) { m.Number = 259 }),
		with(head(api.MsgTold), func(m *api.Msg) { m.Names = []api.TxName{name(1, 2, 3), name(15, 1<<20, 1)} }),
		with(head(api.MsgAck), func(m *api.Msg) {
			m.Task, m.Number, m.Snap = 15, api.MaxNumber, api.Snap{Op: 7, Index: 1, Width: 3, Ended: true}
		}),
		with(head(api.MsgBeat), func(m *api.Msg) { m.Up, m.Ended = []int{0, 3, 15}, []int{3} }),
		with(head(api.MsgFell), func(m *api.Msg) { m.Task = 15 }),
		data(),
		head(api.MsgBeat),
		head(api.MsgFell),
		with(data(), func(m *api.Msg) { m.To = 5; m.Packet.Elem = end }),
		with(data(), func(m *api.Msg) {
			m.Task = 0
			m.Packet = api.Packet{Kind: api.PkAck, Session: api.MaxSession, Seq: api.MaxNumber, Limit: api.MaxNumber}
		}),
		with(head(api.MsgCancel), func(m *api.Msg) { m.From, m.To, m.Epoch, m.Attempt = 3, 7, api.MaxEpoch, api.MaxAttempt }),
		with(deploy(), func(m *api.Msg) { m.To, m.Task, m.Snap = 7, 1, api.Snap{Index: 1, Width: 2} }),
	}
}

// P27.1: Check, message by message.
func TestCheck(t *testing.T) {
	for i, m := range all() {
		if err := frame.Check(m); err != api.OK {
			t.Errorf("Check %d: %d", i, err)
		}
	}
	many := func(n int) (l []api.TxName) {
		for i := range n {
			l = append(l, name(1, 1, 1+i))
		}
		return l
	}
	told := func(l ...api.TxName) api.Msg { return with(head(api.MsgTold), func(m *api.Msg) { m.Names = l }) }
	if err := frame.Check(told(many(24)...)); err != api.OK {
		t.Errorf("24 names: %d", err)
	}
	wrong := []api.Msg{
		none, head(0), head(9), head(-1), head(math.MaxInt),
		head(api.MsgTrigger), with(head(api.MsgTrigger), func(m *api.Msg) { m.Number = api.MaxNumber + 1 }),
		told(), told(many(25)...), told(name(1, 1, 2), name(1, 1, 1)), told(name(1, 1, 1), name(1, 1, 1)), told(name(16, 1, 1)), told(name(1, 0, 1)),
		with(all()[4], func(m *api.Msg) { m.Task = 16 }), with(all()[4], func(m *api.Msg) { m.Task = -1 }), with(all()[4], func(m *api.Msg) { m.Number = 0 }), with(all()[4], func(m *api.Msg) { m.Snap = api.Snap{} }), with(all()[4], func(m *api.Msg) { m.Snap.Offsets[0] = 1 }),
		with(head(api.MsgBeat), func(m *api.Msg) { m.Up = []int{3, 0} }), with(head(api.MsgBeat), func(m *api.Msg) { m.Up = []int{3, 3} }), with(head(api.MsgBeat), func(m *api.Msg) { m.Up = []int{16} }), with(head(api.MsgBeat), func(m *api.Msg) { m.Ended = []int{-1} }), with(head(api.MsgBeat), func(m *api.Msg) { m.Ended = []int{1, 0} }),
		with(head(api.MsgFell), func(m *api.Msg) { m.Task = 16 }), with(head(api.MsgFell), func(m *api.Msg) { m.Task = -1 }),
	}
	for _, change := range []func(m *api.Msg){
		func(m *api.Msg) { m.Task = 64 }, func(m *api.Msg) { m.Task = -1 }, func(m *api.Msg) { m.Packet = api.Packet{} }, func(m *api.Msg) { m.Packet.Kind = 3 }, func(m *api.Msg) { m.Packet.Session = 0 }, func(m *api.Msg) { m.Packet.Session = api.MaxSession + 1 }, func(m *api.Msg) { m.Packet.Seq = 0 }, func(m *api.Msg) { m.Packet.Seq = api.MaxNumber + 1 },
		func(m *api.Msg) { m.Packet.Limit = api.MaxNumber + 1 }, func(m *api.Msg) { m.Packet.Limit = 1 }, func(m *api.Msg) { m.Packet.Elem = api.Elem{} }, func(m *api.Msg) { m.Packet.Elem.Record.Key = 32 }, func(m *api.Msg) { m.Packet.Kind = api.PkAck },
	} {
		wrong = append(wrong, with(data(), change))
	}
	for _, change := range []func(m *api.Msg){
		func(m *api.Msg) { m.Task = 0 }, func(m *api.Msg) { m.Task = 1 }, func(m *api.Msg) { m.Task = 4 }, func(m *api.Msg) { m.Task = -1 }, func(m *api.Msg) { m.Task = 16 }, func(m *api.Msg) { m.To = 5 },
		func(m *api.Msg) { m.Snap = api.Snap{} }, func(m *api.Msg) { m.Snap = api.Snap{Op: 2, Width: 1} }, func(m *api.Msg) { m.Snap = api.Snap{Width: 2} }, func(m *api.Msg) { m.Snap.Width = 2 }, func(m *api.Msg) { m.Snap.Op = 9 },
		func(m *api.Msg) { m.Laid = api.Laid{} }, func(m *api.Msg) { m.Laid.Places = laid.Places[:3] }, func(m *api.Msg) { m.Laid.Work.Inputs = nil }, func(m *api.Msg) { m.Laid.Work.Graph = api.Graph{} },
	} {
		wrong = append(wrong, with(deploy(), change))
	}
	for i, m := range slices.Concat(wrong, misdirected(), junk()) {
		b, err := frame.Encode(m)
		if frame.Check(m) != api.ErrMsg || err != api.ErrMsg || len(b) > 0 {
			t.Errorf("Check of wrong %d, %v: %d %d", i, m, frame.Check(m), err)
		}
	}
}

// misdirected tells messages of each Kind that are of nobody, for nobody, or of no epoch and attempt.
func misdirected() (out []api.Msg) {
	for _, m := range all()[:8] {
		for _, change := range []func(m *api.Msg){
			func(m *api.Msg) { m.Epoch = 0 }, func(m *api.Msg) { m.Epoch = api.MaxEpoch + 1 }, func(m *api.Msg) { m.Attempt = 0 }, func(m *api.Msg) { m.Attempt = api.MaxAttempt + 1 }, func(m *api.Msg) { m.Attempt = -1 },
			func(m *api.Msg) { m.From = 0 }, func(m *api.Msg) { m.From = 8 }, func(m *api.Msg) { m.To = 0 }, func(m *api.Msg) { m.To = 8 }, func(m *api.Msg) { m.To = -1 },
			func(m *api.Msg) { m.From = 7 - m.From }, // a manager for a worker, and the other way round
			func(m *api.Msg) { m.To = 7 - m.To },
		} {
			if x := with(m, change); m.Kind != api.MsgData || x.To >= 1 && x.To <= 3 || x.From <= 3 || x.From == m.From {
				out = append(out, x)
			}
		}
	}
	return out
}

// junk tells messages with something that their Kind does not name.
func junk() (out []api.Msg) {
	for _, x := range []struct {
		kinds  []int
		change func(m *api.Msg)
	}{
		{[]int{api.MsgDeploy, api.MsgAck, api.MsgFell, api.MsgData}, func(m *api.Msg) { m.Task = 1 }},
		{[]int{api.MsgTrigger, api.MsgAck}, func(m *api.Msg) { m.Number = 1 }},
		{[]int{api.MsgDeploy}, func(m *api.Msg) { m.Laid = laid }},
		{[]int{api.MsgDeploy}, func(m *api.Msg) { m.Laid.Places = laid.Places }},
		{[]int{api.MsgDeploy}, func(m *api.Msg) { m.Laid.Work.Inputs = []api.Input{{}} }},
		{[]int{api.MsgDeploy, api.MsgAck}, func(m *api.Msg) { m.Snap.Ended = true }},
		{[]int{api.MsgDeploy, api.MsgAck}, func(m *api.Msg) { m.Snap.Width = 1 }},
		{[]int{api.MsgTold}, func(m *api.Msg) { m.Names = []api.TxName{name(1, 1, 1)} }},
		{[]int{api.MsgBeat}, func(m *api.Msg) { m.Up = []int{1} }},
		{[]int{api.MsgBeat}, func(m *api.Msg) { m.Ended = []int{1} }},
		{[]int{api.MsgData}, func(m *api.Msg) { m.Packet.Seq = 1 }},
		{[]int{api.MsgData}, func(m *api.Msg) { m.Packet.Elem = end }},
	} {
		for _, m := range all()[:8] {
			if !slices.Contains(x.kinds, m.Kind) {
				out = append(out, with(m, x.change))
			}
		}
	}
	return out
}

// P27.1: CheckLaid.
func TestCheckLaid(t *testing.T) {
	if err := frame.CheckLaid(laid); err != api.OK {
		t.Errorf("CheckLaid: %d", err)
	}
	places := func(l ...api.Place) api.Laid { return api.Laid{Work: work, Places: l} }
	for i, x := range []struct {
		l   api.Laid
		err api.Errno
	}{
		{api.Laid{}, api.ErrGraph}, {api.Laid{Work: api.Work{Graph: api.Graph{Ops: work.Graph.Ops[:1]}, Inputs: work.Inputs}}, api.ErrUnread}, {api.Laid{Work: api.Work{Graph: work.Graph}}, api.ErrWork}, {api.Laid{Work: api.Work{Graph: work.Graph, Inputs: []api.Input{{Records: []api.Record{rec(9, 9, 9)}}}}}, api.ErrInput},
		{places(), api.ErrMsg}, {places(laid.Places[:3]...), api.ErrMsg}, {places(append(slices.Clone(laid.Places), api.Place{Task: 4, Worker: 1})...), api.ErrMsg}, {places(laid.Places[1], laid.Places[0], laid.Places[2], laid.Places[3]), api.ErrMsg},
		{places(api.Place{Task: 0, Worker: 0}, laid.Places[1], laid.Places[2], laid.Places[3]), api.ErrMsg}, {places(api.Place{Task: 0, Worker: 5}, laid.Places[1], laid.Places[2], laid.Places[3]), api.ErrMsg},
	} {
		if err := frame.CheckLaid(x.l); err != x.err {
			t.Errorf("CheckLaid %d: %d", i, err)
		}
	}
}

// P27.1: Same.
func TestSame(t *testing.T) {
	m := with(deploy(), func(m *api.Msg) {
		m.Number, m.Names, m.Up, m.Ended = 1, []api.TxName{name(1, 1, 1)}, []int{1}, []int{2}
	})
	for i, change := range []func(m *api.Msg){
		func(m *api.Msg) { m.Kind++ }, func(m *api.Msg) { m.From++ }, func(m *api.Msg) { m.To++ }, func(m *api.Msg) { m.Epoch++ }, func(m *api.Msg) { m.Attempt++ }, func(m *api.Msg) { m.Task++ }, func(m *api.Msg) { m.Number++ },
		func(m *api.Msg) { m.Laid.Places = laid.Places[:3] }, func(m *api.Msg) { m.Laid.Work.Graph = api.Graph{} }, func(m *api.Msg) { m.Laid.Work.Inputs = []api.Input{{Source: 3}} }, func(m *api.Msg) { m.Laid.Work.Inputs = []api.Input{{Source: 2, Records: work.Inputs[0].Records}} }, func(m *api.Msg) { m.Laid.Work.Inputs = nil },
		func(m *api.Msg) { m.Snap.Ended = true }, func(m *api.Msg) { m.Names = nil }, func(m *api.Msg) { m.Up = []int{2} }, func(m *api.Msg) { m.Ended = nil }, func(m *api.Msg) { m.Packet.Seq++ }, func(m *api.Msg) { m.Packet.Elem = end },
	} {
		if x := with(m, change); frame.Same(m, x) || !frame.Same(x, x) {
			t.Errorf("change %d makes nothing else", i)
		}
	}
	if !frame.Same(none, api.Msg{Names: []api.TxName{}, Up: []int{}, Ended: []int{}, Laid: api.Laid{Places: []api.Place{}}}) {
		t.Errorf("nil and empty")
	}
}

// P27.2: Manager, Worker, Node.
func TestNodes(t *testing.T) {
	for node := -1; node < 10; node++ {
		w, ok := frame.Worker(node)
		if want := node >= 4 && node <= 7; ok != want || want && w != node-3 || !want && w != 0 || frame.Manager(node) != (node >= 1 && node <= 3) {
			t.Errorf("Worker(%d): %d %v", node, w, ok)
		}
		n, err := frame.Node(node)
		if want := node >= 1 && node <= 4; want && (n != node+3 || err != api.OK) || !want && (n != 0 || err != api.ErrMsg) {
			t.Errorf("Node(%d): %d %d", node, n, err)
		}
	}
	for _, node := range []int{math.MaxInt, math.MinInt} {
		w, ok := frame.Worker(node)
		n, err := frame.Node(node)
		if w != 0 || ok || n != 0 || err != api.ErrMsg || frame.Manager(node) {
			t.Errorf("%d: %d %v %d %d", node, w, ok, n, err)
		}
	}
}

// P27.3: the bytes of each Kind.
func TestBytes(t *testing.T) {
	start := func(kind, from, to, task byte) []byte {
		return []byte{kind, from, to, task, 0, 0, 0, 0, 0, 0, 1, 2, 0, 0, 0, 3}
	}
	g, _ := graph.Encode(work.Graph)
	s, _ := snap.Encode(deploy().Snap)
	z, _ := snap.Encode(api.Snap{Op: 7, Index: 1, Width: 3, Ended: true})
	minus := bytes.Repeat([]byte{255}, 8)
	seven := []byte{0, 0, 0, 0, 0, 0, 0, 7}
	want := [][]byte{
		slices.Concat(start(1, 2, 4, 2), []byte{0, byte(len(g))}, g, []byte{1, 3, 0, 23, 2, 1, 3, 5}, minus, []byte{1, 3, 0, 0, 0, 0, 0, 0, 0, 0, 2, 4, 0, 1, 1, 4, 2, 1, 3, 2}, s),
		start(2, 2, 4, 0),
		append(start(3, 2, 4, 0), 0, 0, 0, 0, 0, 0, 1, 3),
		append(start(4, 2, 4, 0), 2, 1, 0, 0, 0, 2, 0, 0, 0, 3, 15, 0, 16, 0, 0, 0, 0, 0, 1),
		slices.Concat(start(5, 4, 2, 15), []byte{64, 0, 0, 0, 0, 0, 0, 0}, z),
		append(start(6, 4, 2, 0), 3, 0, 3, 15, 1, 3),
		start(7, 4, 2, 15),
		slices.Concat(start(8, 5, 7, 63), []byte{1, 0, 0, 0, 3}, seven, make([]byte, 8), []byte{0, 12, 1, 1, 1, 2, 0, 0, 0, 0, 0, 0, 0, 3}),
		append(start(6, 4, 2, 0), 0, 0),
		start(7, 4, 2, 0),
		slices.Concat(start(8, 5, 5, 63), []byte{1, 0, 0, 0, 3}, seven, make([]byte, 8), []byte{0, 2, 1, 3}),
		slices.Concat(start(8, 5, 7, 0), []byte{2, 127, 255, 255, 255, 64, 0, 0, 0, 0, 0, 0, 0, 64, 0, 0, 0, 0, 0, 0, 0, 0, 0}),
	}
	for i, w := range want {
		m := all()[i]
		b, err := frame.Encode(m)
		if err != api.OK || !bytes.Equal(b, sum.Seal32(w)) {
			t.Errorf("Encode %d: %v %d", i, b, err)
		}
	}
	if b, _ := frame.Encode(head(api.MsgCancel)); len(b) != 20 {
		t.Errorf("MsgCancel has %d bytes", len(b))
	}
}

// P27.3: what is not just the bytes of a message.
func TestDecode(t *testing.T) {
	refuse := func(what string, b []byte) {
		t.Helper()
		if m, err := frame.Decode(b); err != api.ErrFrame || !frame.Same(m, none) {
			t.Errorf("%s: %d", what, err)
		}
	}
	refuse("nothing", nil)
	refuse("three bytes", []byte{0, 0, 0})
	refuse("nothing, sealed", sum.Seal32(nil))
	for i, m := range all() {
		good, _ := frame.Encode(m)
		body := good[:len(good)-4]
		if got, err := frame.Decode(good); err != api.OK || !frame.Same(got, m) {
			t.Errorf("Decode %d: %v %d", i, got, err)
		}
		for n := range body {
			refuse(fmt.Sprint(i, " cut at ", n), sum.Seal32(body[:n]))
			refuse(fmt.Sprint(i, " not sealed, cut at ", n), good[:n])
			turned := bytes.Clone(good)
			turned[n]++
			refuse(fmt.Sprint(i, " turned at ", n), turned)
		}
		refuse(fmt.Sprint(i, " with more behind"), sum.Seal32(append(bytes.Clone(body), 0)))
	}
	change := func(i, at int, l ...byte) []byte {
		good, _ := frame.Encode(all()[i])
		body := good[:len(good)-4]
		copy(body[at:], l)
		return sum.Seal32(body)
	}
	refuse("no Kind", change(1, 0, 9))
	refuse("a Task of a MsgCancel", change(1, 3, 1))
	refuse("a row of two", sum.Seal32(slices.Concat(change(10, 0)[:37], []byte{0, 3, 2, 3, 3})))
	refuse("a row of none", sum.Seal32(slices.Concat(change(10, 0)[:37], []byte{0, 1, 0})))
	refuse("an ack with a row", sum.Seal32(slices.Concat(change(11, 0)[:37], []byte{0, 1, 0})))
	refuse("an element of an ack", sum.Seal32(slices.Concat(change(11, 0)[:37], []byte{0, 2, 1, 3})))
	// An input with a barrier among its records.
	g, _ := graph.Encode(work.Graph)
	good, _ := frame.Encode(with(deploy(), func(m *api.Msg) { m.Laid.Work.Inputs = []api.Input{{Source: 3}} }))
	at := 16 + 2 + len(g) + 2
	if !bytes.Equal(good[at:at+3], []byte{0, 1, 0}) {
		t.Fatalf("the empty row: %v", good[at:at+3])
	}
	refuse("an end among records", sum.Seal32(slices.Concat(good[:at], []byte{0, 2, 1, 3}, good[at+3:len(good)-4])))
}

// R3: nothing is shared.
func TestShares(t *testing.T) {
	b, _ := frame.Encode(deploy())
	was := bytes.Clone(b)
	m, _ := frame.Decode(b)
	b[5] = 9
	if !frame.Same(m, deploy()) {
		t.Errorf("Decode keeps what it is handed")
	}
	m.Laid.Work.Graph.Ops[1].Inputs[0] = 9
	m.Snap.Table.Rows[0].Key = 9
	if again, err := frame.Decode(was); err != api.OK || !frame.Same(again, deploy()) {
		t.Errorf("shares: %d", err)
	}
}

// P27.4: there and back, of whatever work; unlike messages have unlike bytes.
func TestFollows(t *testing.T) {
	rnd := rand.New(rand.NewSource(27))
	met := map[string]api.Msg{}
	for range 300 {
		w := api.Work{Graph: sample.Graph(rnd.Intn)}
		w.Inputs = sample.Inputs(w.Graph, 5, rnd.Intn)
		subs, _ := plan.Subs(w.Graph)
		m := head(api.MsgDeploy)
		for task := range subs {
			m.Laid.Places = append(m.Laid.Places, api.Place{Task: task, Worker: 1 + rnd.Intn(4)})
		}
		m.Laid.Work = w
		m.Task = rnd.Intn(len(subs))
		m.To = 3 + m.Laid.Places[m.Task].Worker
		at := subs[m.Task]
		m.Snap, _ = snap.Zero(at.Op, at.Index, w.Graph.Ops[at.Op].Width)
		if rnd.Intn(3) == 0 {
			m = all()[rnd.Intn(14)]
			m.Epoch = 1 + uint64(rnd.Intn(5))
		}
		b, err := frame.Encode(m)
		if err != api.OK {
			t.Fatalf("%v: %d", m, err)
		}
		back, err := frame.Decode(b)
		if err != api.OK || !frame.Same(back, m) {
			t.Fatalf("%v: %v %d", m, back, err)
		}
		if other, ok := met[string(b)]; ok && !frame.Same(other, m) {
			t.Fatalf("%v and %v have the same bytes", other, m)
		}
		met[string(b)] = m
		body := b[:len(b)-4]
		body[rnd.Intn(len(body))] ^= byte(1 << rnd.Intn(8))
		sealed := sum.Seal32(body)
		if x, err := frame.Decode(sealed); err == api.OK {
			if again, _ := frame.Encode(x); !bytes.Equal(again, sealed) {
				t.Fatalf("%v: %v", sealed, again)
			}
		}
	}
}
