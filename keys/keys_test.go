package keys_test

import (
	"math"
	"math/rand"
	"slices"
	"testing"

	"headrace/api"
	"headrace/keys"
)

// input makes the input of the source 1 with records of these keys, whose values are their places.
func input(l ...int) api.Input {
	x := api.Input{Source: 1}
	for i, key := range l {
		x.Records = append(x.Records, api.Record{Source: 1, Key: key, Value: int64(i)})
	}
	return x
}

// offsets makes offsets of pairs of a group and a number.
func offsets(l ...[2]int) (o api.Offsets) {
	for _, p := range l {
		o[p[0]] = p[1]
	}
	return o
}

var example = input(0, 8, 1, 0)

// P7.1: Group, Owner, Owned, Mine.
func TestOwners(t *testing.T) {
	for key, want := range map[int]int{0: 0, 7: 7, 8: 0, 9: 1, 31: 7} {
		if g, err := keys.Group(api.Record{Key: key}); g != want || err != api.OK {
			t.Errorf("Group(%d): %d %d", key, g, err)
		}
	}
	for _, r := range []api.Record{{Key: 32}, {Key: -1}, {Source: 8, Key: 3}, {Source: -1, Key: 3}} {
		if g, err := keys.Group(r); g != 0 || err != api.ErrRecord || keys.Mine(r, 0, 1) {
			t.Errorf("Group(%v): %d %d", r, g, err)
		}
	}
	for width, want := range map[int][]int{1: {0, 0, 0, 0, 0, 0, 0, 0}, 2: {0, 0, 0, 0, 1, 1, 1, 1}, 3: {0, 0, 0, 1, 1, 1, 2, 2}} {
		for g, w := range want {
			if got, err := keys.Owner(g, width); got != w || err != api.OK {
				t.Errorf("Owner(%d, %d): %d %d", g, width, got, err)
			}
			for index := -1; index <= width; index++ {
				if keys.Mine(api.Record{Source: 7, Key: g + 8, Value: -1}, index, width) != (index == w) {
					t.Errorf("Mine(%d, %d, %d)", g+8, index, width)
				}
			}
		}
		var all []int
		for index := range width {
			l, err := keys.Owned(index, width)
			if err != api.OK {
				t.Errorf("Owned(%d, %d): %d", index, width, err)
			}
			all = append(all, l...)
		}
		if !slices.Equal(all, []int{0, 1, 2, 3, 4, 5, 6, 7}) {
			t.Errorf("the groups among %d: %v", width, all)
		}
	}
	if l, _ := keys.Owned(1, 3); !slices.Equal(l, []int{3, 4, 5}) {
		t.Errorf("Owned(1, 3): %v", l)
	}
	for _, r := range [][2]int{{-1, 1}, {8, 1}, {0, 0}, {0, 4}, {0, -1}, {math.MaxInt, 3}, {math.MinInt, 3}, {7, math.MaxInt}} {
		if got, err := keys.Owner(r[0], r[1]); got != 0 || err != api.ErrArg {
			t.Errorf("Owner%v: %d", r, err)
		}
	}
	for _, r := range [][2]int{{-1, 1}, {1, 1}, {3, 3}, {0, 0}, {0, 4}, {math.MinInt, math.MaxInt}} {
		if got, err := keys.Owned(r[0], r[1]); len(got) != 0 || err != api.ErrArg {
			t.Errorf("Owned%v: %d", r, err)
		}
		if keys.Mine(api.Record{}, r[0], r[1]) {
			t.Errorf("Mine%v", r)
		}
	}
}

// P7.2: CheckInput, CheckOffsets, Total.
func TestChecks(t *testing.T) {
	most := input(make([]int, api.MaxInput)...)
	for _, x := range []api.Input{{}, {Source: 3}, example, most} {
		if err := keys.CheckInput(x); err != api.OK {
			t.Errorf("CheckInput(%v): %d", x, err)
		}
	}
	wrong := []api.Input{
		input(make([]int, api.MaxInput+1)...), input(32), input(3, -1),
		{Source: 2, Records: example.Records},
		{Source: 1, Records: []api.Record{{Source: 1}, {Source: 2}}},
		{Source: 8, Records: []api.Record{{Source: 8}}},
	}
	for _, x := range wrong {
		if err := keys.CheckInput(x); err != api.ErrInput {
			t.Errorf("CheckInput(%v): %d", x, err)
		}
		if err := keys.CheckOffsets(x, offsets([2]int{0, -1})); err != api.ErrInput {
			t.Errorf("CheckOffsets(%v): %d", x, err)
		}
		o, err := keys.Total(x)
		if err != api.ErrInput || o != (api.Offsets{}) {
			t.Errorf("Total(%v): %d", x, err)
		}
		if _, _, ok, err := keys.Next(x, o, 9, 9); ok || err != api.ErrInput {
			t.Errorf("Next(%v): %d", x, err)
		}
		if _, err := keys.Read(x, o, 9, 9); err != api.ErrInput {
			t.Errorf("Read(%v): %d", x, err)
		}
		if _, err := keys.Prefix(x, o); err != api.ErrInput {
			t.Errorf("Prefix(%v): %d", x, err)
		}
	}
	for _, o := range []api.Offsets{{}, offsets([2]int{0, 3}, [2]int{1, 1}), offsets([2]int{0, 2})} {
		if err := keys.CheckOffsets(example, o); err != api.OK {
			t.Errorf("CheckOffsets(%v): %d", o, err)
		}
	}
	for _, o := range []api.Offsets{offsets([2]int{1, 2}), offsets([2]int{0, 4}), offsets([2]int{0, -1}), offsets([2]int{7, 1}), offsets([2]int{0, math.MaxInt}), offsets([2]int{0, math.MinInt})} {
		if err := keys.CheckOffsets(example, o); err != api.ErrOffsets {
			t.Errorf("CheckOffsets(%v): %d", o, err)
		}
		if r, g, ok, err := keys.Next(example, o, 9, 9); r != (api.Record{}) || g != 0 || ok || err != api.ErrOffsets {
			t.Errorf("Next(%v): %d", o, err)
		}
		if x, err := keys.Read(example, o, 9, 9); x != (api.Offsets{}) || err != api.ErrOffsets {
			t.Errorf("Read(%v): %d", o, err)
		}
		if l, err := keys.Prefix(example, o); len(l) != 0 || err != api.ErrOffsets {
			t.Errorf("Prefix(%v): %d", o, err)
		}
	}
	if o, err := keys.Total(example); err != api.OK || o != offsets([2]int{0, 3}, [2]int{1, 1}) {
		t.Errorf("Total: %v %d", o, err)
	}
}

// P7.3: Next, Read.
func TestNext(t *testing.T) {
	rows := []struct {
		o            api.Offsets
		index, width int
		key          int
		value        int64
		group        int
		ok           bool
	}{
		{api.Offsets{}, 0, 1, 0, 0, 0, true},
		{offsets([2]int{0, 1}), 0, 1, 8, 1, 0, true},
		{offsets([2]int{0, 2}), 0, 1, 1, 2, 1, true},
		{offsets([2]int{0, 2}, [2]int{1, 1}), 0, 1, 0, 3, 0, true},
		{offsets([2]int{0, 3}, [2]int{1, 1}), 0, 1, 0, 0, 0, false},
		{offsets([2]int{0, 3}), 0, 3, 1, 2, 1, true},
		{api.Offsets{}, 1, 2, 0, 0, 0, false},
		{api.Offsets{}, 2, 3, 0, 0, 0, false},
	}
	for _, r := range rows {
		x, g, ok, err := keys.Next(example, r.o, r.index, r.width)
		want := api.Record{}
		if r.ok {
			want = api.Record{Source: 1, Key: r.key, Value: r.value}
		}
		if x != want || g != r.group || ok != r.ok || err != api.OK {
			t.Errorf("Next(%v, %d, %d): %v %d %v %d", r.o, r.index, r.width, x, g, ok, err)
		}
		o := r.o
		if r.ok {
			o[r.group]++
		}
		if got, err := keys.Read(example, r.o, r.index, r.width); got != o || err != api.OK {
			t.Errorf("Read(%v, %d, %d): %v %d", r.o, r.index, r.width, got, err)
		}
	}
	for _, r := range [][2]int{{3, 3}, {-1, 3}, {0, 0}, {0, 4}} {
		if x, g, ok, err := keys.Next(example, api.Offsets{}, r[0], r[1]); x != (api.Record{}) || g != 0 || ok || err != api.ErrArg {
			t.Errorf("Next of %v: %d", r, err)
		}
		if _, err := keys.Read(example, api.Offsets{}, r[0], r[1]); err != api.ErrArg {
			t.Errorf("Read of %v: %d", r, err)
		}
		if o, err := keys.Joined(offsets([2]int{0, 1}), offsets([2]int{0, 2}), r[0], r[1]); err != api.ErrArg || o != (api.Offsets{}) {
			t.Errorf("Joined of %v: %d", r, err)
		}
	}
}

// P7.4: Prefix, Joined.
func TestPrefix(t *testing.T) {
	for _, r := range []struct {
		o    api.Offsets
		want []int64
	}{
		{api.Offsets{}, nil},
		{offsets([2]int{0, 2}), []int64{0, 1}},
		{offsets([2]int{1, 1}), []int64{2}},
		{offsets([2]int{0, 1}, [2]int{1, 1}), []int64{0, 2}},
		{offsets([2]int{0, 3}, [2]int{1, 1}), []int64{0, 1, 2, 3}},
	} {
		l, err := keys.Prefix(example, r.o)
		var got []int64
		for _, x := range l {
			got = append(got, x.Value)
		}
		if err != api.OK || !slices.Equal(got, r.want) {
			t.Errorf("Prefix(%v): %v %d", r.o, got, err)
		}
	}
	l, _ := keys.Prefix(example, offsets([2]int{0, 1}))
	l[0].Key = 5
	if example.Records[0].Key != 0 {
		t.Errorf("Prefix shares")
	}
	a, b := api.Offsets{1, 2, 3, 4, 5, 6, 7, 8}, api.Offsets{-1, -2, -3, -4, -5, -6, -7, -8}
	if o, err := keys.Joined(a, b, 1, 3); err != api.OK || o != (api.Offsets{-1, -2, -3, 4, 5, 6, -7, -8}) {
		t.Errorf("Joined: %v %d", o, err)
	}
	if o, err := keys.Joined(a, b, 0, 1); err != api.OK || o != a {
		t.Errorf("Joined: %v %d", o, err)
	}
}

// P7.5: whoever reads when, at whatever widths, each record is emitted once, those of a key in order.
func TestFollows(t *testing.T) {
	rnd := rand.New(rand.NewSource(7))
	for range 300 {
		x := api.Input{Source: 2}
		for i := range rnd.Intn(api.MaxInput + 1) {
			x.Records = append(x.Records, api.Record{Source: 2, Key: rnd.Intn(32), Value: int64(i)})
		}
		total, _ := keys.Total(x)
		var o api.Offsets
		var given []api.Record
		width := 1
		for o != total {
			if rnd.Intn(10) == 0 {
				width = 1 + rnd.Intn(3)
			}
			index := rnd.Intn(width)
			r, g, ok, err := keys.Next(x, o, index, width)
			if err != api.OK {
				t.Fatal(err)
			}
			next, _ := keys.Read(x, o, index, width)
			if !ok {
				if next != o {
					t.Fatalf("nothing is read, and it goes on")
				}
				continue
			}
			if want, _ := keys.Group(r); g != want || next[g] != o[g]+1 || !keys.Mine(r, index, width) {
				t.Fatalf("%v of group %d", r, g)
			}
			given = append(given, r)
			joined, _ := keys.Joined(next, o, index, width)
			if o = joined; o != next {
				t.Fatalf("another one's groups are read")
			}
			got, _ := keys.Prefix(x, o)
			if len(got) != len(given) {
				t.Fatalf("%d emitted, %d told", len(given), len(got))
			}
		}
		for key := range 32 {
			of := func(l []api.Record) (out []int64) {
				for _, r := range l {
					if r.Key == key {
						out = append(out, r.Value)
					}
				}
				return out
			}
			if !slices.Equal(of(given), of(x.Records)) {
				t.Fatalf("key %d: %v", key, of(given))
			}
		}
		if len(given) != len(x.Records) {
			t.Fatalf("%d of %d", len(given), len(x.Records))
		}
	}
}
