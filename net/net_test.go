package net_test

import (
	"bytes"
	"math"
	"math/rand"
	"slices"
	"testing"

	"headrace/api"
	"headrace/net"
)

func parcel(num uint64, from, to int, b ...byte) api.Parcel {
	return api.Parcel{Num: num, From: from, To: to, Bytes: b}
}

func of(sent uint64, l ...api.Parcel) api.Net { return api.Net{Sent: sent, Parcels: l} }

func zero(n api.Net) bool { return net.Same(n, api.Net{}) }

func none(p api.Parcel) bool {
	return p.Num == 0 && p.From == 0 && p.To == 0 && len(p.Bytes) == 0
}

func many(k int) (l []api.Parcel) {
	for i := range k {
		l = append(l, parcel(uint64(i+1), 1, 2))
	}
	return l
}

var wrong = []api.Net{
	of(api.MaxNumber + 1), of(100, many(61)...), of(1, parcel(2, 1, 2)), of(9, parcel(0, 1, 2)), of(9, parcel(2, 1, 2), parcel(1, 1, 2)), of(9, parcel(2, 1, 2), parcel(2, 1, 2)),
	of(9, parcel(1, 0, 2)), of(9, parcel(1, 8, 2)), of(9, parcel(1, 2, 0)), of(9, parcel(1, 2, 8)), of(9, parcel(1, 3, 3)), of(9, parcel(1, -1, 3)), of(9, parcel(1, 1, 2, make([]byte, api.MaxParcel+1)...)),
}

// P28.1: Check, Same; what may not be is refused ahead of all else.
func TestCheck(t *testing.T) {
	for i, n := range []api.Net{{}, of(api.MaxNumber), of(60, many(60)...), of(9, parcel(2, 7, 1, make([]byte, api.MaxParcel)...), parcel(9, 1, 7))} {
		if err := net.Check(n); err != api.OK {
			t.Errorf("Check %d: %d", i, err)
		}
	}
	for i, n := range wrong {
		a, num, err := net.Send(n, 0, 0, nil)
		b, p, err2 := net.Come(n, 99, true)
		c, err3 := net.Lose(n, 99)
		d, gone, err4 := net.Cut(n, 0)
		for j, err := range []api.Errno{net.Check(n), err, err2, err3, err4} {
			if err != api.ErrNet {
				t.Errorf("call %d of %d: %d", j, i, err)
			}
		}
		k, ok := net.Pick(n, 0)
		if !zero(a) || !zero(b) || !zero(c) || !zero(d) || num != 0 || !none(p) || gone != 0 || len(net.For(n, 2)) > 0 || k != 0 || ok {
			t.Errorf("something of what may not be: %d", i)
		}
	}
	a := of(9, parcel(2, 7, 1, 5))
	for i, b := range []api.Net{of(8, parcel(2, 7, 1, 5)), of(9, parcel(3, 7, 1, 5)), of(9, parcel(2, 6, 1, 5)), of(9, parcel(2, 7, 2, 5)), of(9, parcel(2, 7, 1, 6)), of(9, parcel(2, 7, 1)), of(9), {}} {
		if net.Same(a, b) || !net.Same(b, b) {
			t.Errorf("Same %d", i)
		}
	}
	if !zero(api.Net{Parcels: []api.Parcel{}}) || !net.Same(of(9, parcel(1, 1, 2)), of(9, api.Parcel{Num: 1, From: 1, To: 2, Bytes: []byte{}})) {
		t.Errorf("nil and empty")
	}
}

// The chapter's examples.
func TestExamples(t *testing.T) {
	n, a, _ := net.Send(api.Net{}, 1, 4, []byte{7})
	n, b, _ := net.Send(n, 4, 1, []byte{8})
	if x, num, err := net.Send(n, 1, 1, []byte{9}); a != 1 || b != 2 || num != 0 || err != api.ErrArg || !zero(x) {
		t.Errorf("Send: %d %d %d", a, b, err)
	}
	for _, stays := range []bool{true, false} {
		next, p, err := net.Come(n, 1, stays)
		if err != api.OK || p.Num != 1 || p.From != 1 || p.To != 4 || !bytes.Equal(p.Bytes, []byte{7}) || net.Same(next, n) != stays {
			t.Errorf("Come: %v %d", p, err)
		}
		n = next
	}
	if x, p, err := net.Come(n, 1, false); err != api.ErrNone || !zero(x) || !none(p) {
		t.Errorf("Come: %d", err)
	}
	if k, ok := net.Pick(n, 5); !slices.Equal(net.For(n, 1), []uint64{2}) || k != 2 || !ok {
		t.Errorf("For: %v; Pick: %d", net.For(n, 1), k)
	}
	n, gone, err := net.Cut(n, 4)
	if k, ok := net.Pick(n, 0); err != api.OK || gone != 1 || k != 0 || ok {
		t.Errorf("Cut: %d %d", gone, err)
	}
	n, c, _ := net.Send(n, 1, 2, []byte{7})
	n, err = net.Lose(n, 3)
	if c != 3 || err != api.OK || !net.Same(n, of(3)) {
		t.Errorf("Lose: %d %d", c, err)
	}
	if x, err := net.Lose(n, 3); err != api.ErrNone || !zero(x) {
		t.Errorf("Lose: %d", err)
	}
}

// P28.2: Send.
func TestSend(t *testing.T) {
	long := make([]byte, api.MaxParcel+1)
	for i, x := range []struct {
		n        api.Net
		from, to int
		b        []byte
		num      uint64
		err      api.Errno
	}{
		{of(5), 1, 7, long[1:], 6, api.OK}, {of(5, parcel(5, 1, 2)), 7, 1, nil, 6, api.OK}, {of(59, many(59)...), 1, 2, nil, 60, api.OK}, {of(api.MaxNumber - 1), 1, 2, nil, api.MaxNumber, api.OK},
		{of(60, many(60)...), 0, 2, long, 0, api.ErrArg}, {of(5), 8, 2, long, 0, api.ErrArg}, {of(5), 2, 0, long, 0, api.ErrArg}, {of(5), 2, 8, nil, 0, api.ErrArg}, {of(5), 2, 2, nil, 0, api.ErrArg}, {of(5), math.MinInt, math.MaxInt, nil, 0, api.ErrArg},
		{of(60, many(60)...), 1, 2, long, 0, api.ErrLong}, {of(60, many(60)...), 1, 2, nil, 0, api.ErrFull}, {of(api.MaxNumber), 1, 2, nil, 0, api.ErrFull},
	} {
		got, num, err := net.Send(x.n, x.from, x.to, x.b)
		want := api.Net{}
		if x.err == api.OK {
			want = of(x.num, append(slices.Clone(x.n.Parcels), api.Parcel{Num: x.num, From: x.from, To: x.to, Bytes: x.b})...)
		}
		if err != x.err || num != x.num || !net.Same(got, want) {
			t.Errorf("Send %d: %d %d", i, num, err)
		}
	}
}

// P28.3, P28.4: Come, Lose, Cut, For, Pick.
func TestCalls(t *testing.T) {
	l := []api.Parcel{parcel(2, 1, 4, 9), parcel(3, 4, 1), parcel(7, 2, 5), parcel(9, 4, 5, 8)}
	n := of(9, l...)
	for i, p := range l {
		rest := of(9, slices.Delete(slices.Clone(l), i, i+1)...)
		a, q, err := net.Come(n, p.Num, false)
		b, r, err2 := net.Come(n, p.Num, true)
		c, err3 := net.Lose(n, p.Num)
		if err != api.OK || err2 != api.OK || err3 != api.OK || !net.Same(a, rest) || !net.Same(b, n) || !net.Same(c, rest) || !net.Same(of(9, q), of(9, p)) || !net.Same(of(9, r), of(9, p)) {
			t.Errorf("the parcel %d: %v %v", p.Num, q, r)
		}
	}
	for _, num := range []uint64{0, 1, 4, 10, math.MaxUint64} {
		a, p, err := net.Come(n, num, true)
		b, err2 := net.Lose(n, num)
		if err != api.ErrNone || err2 != api.ErrNone || !zero(a) || !zero(b) || !none(p) {
			t.Errorf("the parcel %d: %d %d", num, err, err2)
		}
	}
	for node, left := range map[int][]int{1: {2, 3}, 2: {0, 1, 3}, 3: {0, 1, 2, 3}, 4: {2}, 5: {0, 1}, 7: {0, 1, 2, 3}} {
		want := of(9)
		for _, i := range left {
			want.Parcels = append(want.Parcels, l[i])
		}
		if got, gone, err := net.Cut(n, node); err != api.OK || gone != 4-len(left) || !net.Same(got, want) {
			t.Errorf("Cut(%d): %v %d %d", node, got, gone, err)
		}
	}
	for _, node := range []int{0, 8, -1, math.MaxInt} {
		if got, gone, err := net.Cut(n, node); err != api.ErrArg || gone != 0 || !zero(got) || len(net.For(n, node)) > 0 {
			t.Errorf("Cut(%d): %d", node, err)
		}
	}
	for node, want := range map[int][]uint64{1: {3}, 2: nil, 4: {2}, 5: {7, 9}} {
		if got := net.For(n, node); !slices.Equal(got, want) {
			t.Errorf("For(%d): %v", node, got)
		}
	}
	for k, want := range map[int]uint64{0: 2, 1: 3, 3: 9, 4: 2, 6: 7, -1: 2, math.MinInt: 2, math.MaxInt: 9} {
		if got, ok := net.Pick(n, k); got != want || !ok {
			t.Errorf("Pick(%d): %d %v", k, got, ok)
		}
	}
}

// R3: what is handed in stays as it was, and is not shared.
func TestShares(t *testing.T) {
	n := of(9, parcel(2, 1, 4, 9), parcel(3, 4, 1, 8))
	n.Parcels = append(make([]api.Parcel, 0, 8), n.Parcels...)
	in := []byte{5}
	a, _, _ := net.Send(n, 1, 2, in)
	in[0] = 6
	if a.Parcels[2].Bytes[0] != 5 {
		t.Errorf("Send keeps what it is handed")
	}
	b, p, _ := net.Come(n, 2, true)
	p.Bytes[0] = 77
	if b.Parcels[0].Bytes[0] != 9 {
		t.Errorf("two answers share")
	}
	c, _ := net.Lose(n, 2)
	d, _, _ := net.Cut(n, 1)
	for _, x := range []api.Net{a, b, c, d} {
		for i := range x.Parcels {
			x.Parcels[i].Num = 99
			x.Parcels[i].Bytes[0] = 99
		}
	}
	if !net.Same(n, of(9, parcel(2, 1, 4, 9), parcel(3, 4, 1, 8))) || !none(n.Parcels[:3][2]) {
		t.Errorf("changed: %v", n)
	}
}

// P28.5: what comes was sent, as it was.
func TestFollows(t *testing.T) {
	rnd := rand.New(rand.NewSource(28))
	for range 100 {
		var n api.Net
		way := map[uint64]api.Parcel{}
		var sent uint64
		for range 200 {
			k := rnd.Intn(100)
			num, some := net.Pick(n, k)
			if some != (len(way) > 0) {
				t.Fatalf("Pick: %v of %v", some, way)
			}
			switch rnd.Intn(8) {
			case 0, 1, 2, 3:
				p := parcel(sent+1, 1+rnd.Intn(7), 1+rnd.Intn(7), byte(k))
				next, got, err := net.Send(n, p.From, p.To, p.Bytes)
				if err == api.OK {
					if got != sent+1 {
						t.Fatalf("%d behind %d", got, sent)
					}
					sent = got
					n, way[got] = next, p
				}
			case 4, 5:
				stays := rnd.Intn(2) > 0
				next, p, err := net.Come(n, num, stays)
				if err != api.OK {
					continue
				}
				if !net.Same(of(999, p), of(999, way[num])) {
					t.Fatalf("%v came of %v", p, way[num])
				}
				if n = next; !stays {
					delete(way, num)
				}
			case 6:
				if next, err := net.Lose(n, num); err == api.OK {
					n = next
					delete(way, num)
				}
			default:
				if rnd.Intn(5) == 0 {
					node := 1 + rnd.Intn(7)
					next, gone, err := net.Cut(n, node)
					if err != api.OK {
						t.Fatal(err)
					}
					n = next
					for num, p := range way {
						if p.From == node || p.To == node {
							delete(way, num)
							gone--
						}
					}
					if gone != 0 {
						t.Fatalf("Cut tells %d too many", gone)
					}
				}
			}
			if net.Check(n) != api.OK || len(n.Parcels) != len(way) || n.Sent != sent {
				t.Fatalf("%v", n)
			}
			for _, p := range n.Parcels {
				if !net.Same(of(999, p), of(999, way[p.Num])) {
					t.Fatalf("%v of %v", p, way[p.Num])
				}
			}
		}
	}
}
