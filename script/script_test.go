package script_test

import (
	"fmt"
	"math"
	"math/rand"
	"slices"
	"strings"
	"testing"

	"headrace/api"
	"headrace/sample"
	"headrace/script"
	"headrace/world"
)

var (
	none  = api.Script{}
	pair  = sample.Plain()
	bytes = "0201010000000000000000000000000000000000" + "0701000000000000000000000000000000000100"
)

func event(kind, node, n int) api.Event { return api.Event{Kind: kind, Node: node, N: n} }

func ask(r api.Request) api.Event {
	return api.Event{Kind: api.EvAsk, Node: 2, Request: r}
}

func of(l ...api.Event) api.Script { return api.Script{Area: 40, Events: l} }

// lines tells a text of these lines.
func lines(l ...string) string { return strings.Join(l, "\n") + "\n" }

// said tells events, and their lines.
func said() ([]api.Event, []string) {
	in := api.Input{Source: 3, Records: []api.Record{{Source: 3, Key: 31, Value: math.MinInt64}, {Source: 3, Key: 0, Value: math.MaxInt64}}}
	rows := []struct {
		e    api.Event
		line string
	}{
		{event(api.EvTick, 0, 20), "tick 20"},
		{event(api.EvBeat, 4, 0), "beat 4"},
		{event(api.EvWork, 7, api.MaxN), "work 7 1073741824"},
		{event(api.EvPump, 5, 0), "pump 5"},
		{event(api.EvCome, 0, 0), "come 0"},
		{event(api.EvTwice, 0, 1), "twice 1"},
		{event(api.EvLose, 0, 10), "lose 10"},
		{event(api.EvFall, 6, 2), "fall 6 2"},
		{event(api.EvDie, 1, 0), "die 1"},
		{event(api.EvUp, 4, 0), "up 4"},
		{event(api.EvArm, 0, 3), "arm 3"},
		{event(api.EvFail, 0, 0), "fail 0"},
		{event(api.EvCrash, 0, 0), "crash -"},
		{api.Event{Kind: api.EvCrash, Keep: []bool{true, false, false, true}}, "crash 1001"},
		{api.Event{Kind: api.EvCrash, Keep: []bool{false}}, "crash 0"},
		{ask(api.Request{Kind: api.ReqSubmit, Graph: pair, Inputs: []api.Input{in, {}}}), "ask 2 submit " + bytes + " 2 3 2 31 -9223372036854775808 0 9223372036854775807 0 0"},
		{ask(api.Request{Kind: api.ReqSubmit, Graph: pair}), "ask 2 submit " + bytes + " 0"},
		{ask(api.Request{Kind: api.ReqCancel}), "ask 2 cancel"},
		{ask(api.Request{Kind: api.ReqStop}), "ask 2 stop"},
		{ask(api.Request{Kind: api.ReqSave}), "ask 2 save"},
		{ask(api.Request{Kind: api.ReqRelease}), "ask 2 release 0"},
		{ask(api.Request{Kind: api.ReqRelease, Number: math.MaxInt64}), "ask 2 release 9223372036854775807"},
		{ask(api.Request{Kind: api.ReqRescale, Number: 7, Widths: []int{1, 3, 2}}), "ask 2 rescale 7 1 3 2"},
	}
	var events []api.Event
	var text []string
	for _, r := range rows {
		events, text = append(events, r.e), append(text, r.line)
	}
	return events, text
}

// wrongEvents tells events that no line can say.
func wrongEvents() []api.Event {
	long := api.Input{Records: make([]api.Record, api.MaxInput+1)}
	return []api.Event{
		{}, event(15, 0, 0), event(-1, 0, 0), event(api.EvTick, 0, 0), event(api.EvTick, 0, 21), event(api.EvBeat, 1, 0), event(api.EvWork, 4, -1), event(api.EvWork, 4, api.MaxN+1), {Kind: api.EvCrash, Keep: make([]bool, api.MaxKeeps+1)},
		event(api.EvBeat, 4, 1), event(api.EvPump, 4, 1), event(api.EvDie, 4, 1), event(api.EvUp, 4, 1), event(api.EvCrash, 0, 1), {Kind: api.EvAsk, Node: 1, N: 1, Request: api.Request{Kind: api.ReqStop}},
		ask(api.Request{}), ask(api.Request{Kind: api.ReqStop, Number: 1}), ask(api.Request{Kind: api.ReqRelease, Number: math.MaxInt64 + 1}), ask(api.Request{Kind: api.ReqRescale}), ask(api.Request{Kind: api.ReqRescale, Number: math.MaxUint64, Widths: []int{1}}), ask(api.Request{Kind: api.ReqRescale, Widths: []int{4}}),
		ask(api.Request{Kind: api.ReqSubmit}), ask(api.Request{Kind: api.ReqSubmit, Graph: api.Graph{Ops: pair.Ops[:1]}}), ask(api.Request{Kind: api.ReqSubmit, Graph: pair, Inputs: make([]api.Input, 5)}), ask(api.Request{Kind: api.ReqSubmit, Graph: pair, Inputs: []api.Input{long}}), ask(api.Request{Kind: api.ReqSubmit, Graph: pair, Inputs: []api.Input{{Source: 1, Records: make([]api.Record, 1)}}}),
	}
}

// P32.1: Check, Print, Same.
func TestPrint(t *testing.T) {
	events, text := said()
	s := of(events...)
	if err := script.Check(s); err != api.OK {
		t.Errorf("Check: %d", err)
	}
	want := lines(append([]string{"area 40"}, text...)...)
	if got, err := script.Print(s); err != api.OK || got != want {
		t.Errorf("Print: %s %d", got, err)
	}
	if got, err := script.Print(api.Script{Area: 300}); err != api.OK || got != "area 300\n" {
		t.Errorf("Print: %s %d", got, err)
	}
	wrong := []api.Script{none, {Area: 39}, {Area: 301}, {Area: -40}, of(slices.Repeat(events[:1], 401)...)}
	for _, e := range wrongEvents() {
		wrong = append(wrong, of(events[0], e))
	}
	for i, s := range wrong {
		a, err := script.Print(s)
		b, err2 := script.Play(s)
		if script.Check(s) != api.ErrPlan || err != api.ErrPlan || err2 != api.ErrPlan || a+b != "" {
			t.Errorf("wrong %d: %d %d %d", i, script.Check(s), err, err2)
		}
	}
	if err := script.Check(of(slices.Repeat(events[:1], 400)...)); err != api.OK {
		t.Errorf("Check of the most: %d", err)
	}
	// A text that is too long: 32 lines of 4103 bytes each fit not.
	crash := api.Event{Kind: api.EvCrash, Keep: make([]bool, api.MaxKeeps)}
	if got, err := script.Print(of(slices.Repeat([]api.Event{crash}, 31)...)); err != api.OK || len(got) != 8+31*4103 {
		t.Errorf("Print of a long one: %d %d", len(got), err)
	}
	if got, err := script.Print(of(slices.Repeat([]api.Event{crash}, 32)...)); err != api.ErrLong || got != "" {
		t.Errorf("Print of too long a one: %d", err)
	}
	// As many bytes as may be, and one more.
	last := func(n int) api.Script {
		rest := api.Event{Kind: api.EvCrash, Keep: make([]bool, n)}
		return of(append(slices.Repeat([]api.Event{crash}, 31), rest)...)
	}
	n := api.MaxScript - 8 - 31*4103 - 7
	if got, err := script.Print(last(n)); err != api.OK || len(got) != api.MaxScript {
		t.Errorf("Print of the longest: %d %d", len(got), err)
	}
	if _, err := script.Print(last(n + 1)); err != api.ErrLong {
		t.Errorf("Print of one byte more: %d", err)
	}
	if got, err := script.Play(last(n + 1)); err != api.OK || strings.Count(got, "\n") != 32 {
		t.Errorf("Play of one byte more: %d", err)
	}
}

// P32.1: Same, of whatever scripts.
func TestSame(t *testing.T) {
	r := api.Request{Kind: 9, Graph: pair, Inputs: []api.Input{{Source: 1, Records: []api.Record{{Key: 5}}}}, Number: 3, Widths: []int{7}}
	e := api.Event{Kind: 77, Node: 5, N: 6, Request: r, Keep: []bool{true}}
	s := api.Script{Area: 1, Events: []api.Event{e}}
	for i, change := range []func(e *api.Event){
		func(e *api.Event) { e.Kind++ }, func(e *api.Event) { e.Node++ }, func(e *api.Event) { e.N++ }, func(e *api.Event) { e.Keep = []bool{false} }, func(e *api.Event) { e.Keep = nil }, func(e *api.Event) { e.Request.Kind++ }, func(e *api.Event) { e.Request.Graph = api.Graph{} }, func(e *api.Event) { e.Request.Inputs = nil },
		func(e *api.Event) { e.Request.Inputs = []api.Input{{Source: 2, Records: r.Inputs[0].Records}} }, func(e *api.Event) { e.Request.Inputs = []api.Input{{Source: 1}} }, func(e *api.Event) { e.Request.Number++ }, func(e *api.Event) { e.Request.Widths = nil },
	} {
		x := e
		change(&x)
		if other := (api.Script{Area: 1, Events: []api.Event{x}}); script.Same(s, other) || !script.Same(other, other) {
			t.Errorf("change %d makes nothing else", i)
		}
	}
	if script.Same(s, api.Script{Area: 2, Events: s.Events}) || script.Same(s, api.Script{Area: 1}) || !script.Same(none, api.Script{Events: []api.Event{}}) || !script.Same(of(event(1, 1, 1)), of(api.Event{Kind: 1, Node: 1, N: 1, Keep: []bool{}})) {
		t.Errorf("Same")
	}
}

// P32.2: Parse.
func TestParse(t *testing.T) {
	events, text := said()
	whole := lines(append([]string{"area 40"}, text...)...)
	if s, at, err := script.Parse(whole); err != api.OK || at != 0 || !script.Same(s, of(events...)) {
		t.Errorf("Parse: %v %d %d", s, at, err)
	}
	if s, at, err := script.Parse("area 300\n"); err != api.OK || at != 0 || !script.Same(s, api.Script{Area: 300}) {
		t.Errorf("Parse: %v %d %d", s, at, err)
	}
	for _, r := range []struct {
		text string
		at   int
	}{
		{"", 0}, {"tick 1\n", 0}, {"area 40\ntick 0\n", 8}, {"area 39\n", 0}, {"area 301\n", 0}, {"area 40", 0}, {"\n", 0}, {"area 40\n\n", 8}, {"\narea 40\n", 0}, {"area 40\ntick 1", 8}, {"area 40\ntick 1\ndie 1", 15}, {"area 40\narea 40\n", 8}, {"Area 40\n", 0}, {"area  40\n", 0}, {" area 40\n", 0}, {"area 40 \n", 0}, {"area 40 1\n", 0}, {"area\n", 0}, {"area 040\n", 0}, {"area +40\n", 0}, {"area 40\r\n", 0}, {"area x\n", 0},
	} {
		if s, at, err := script.Parse(r.text); err != api.ErrScript || at != r.at || !script.Same(s, none) {
			t.Errorf("Parse(%q): %d %d", r.text, at, err)
		}
	}
	// Whatever stands behind a line that is wrong, it is wrong there.
	for _, line := range wrongLines() {
		for _, behind := range []string{"", "tick 1\n", "wrong\n", "no line feed", "\n\n"} {
			if s, at, err := script.Parse("area 40\ntick 1\n" + line + "\n" + behind); err != api.ErrScript || at != 15 || !script.Same(s, none) {
				t.Errorf("Parse of %q, behind it %q: %d %d", line, behind, at, err)
			}
			if told, at, err := script.Run("area 40\ntick 1\n" + line + "\n" + behind); err != api.ErrScript || at != 15 || told != "" {
				t.Errorf("Run of %q: %d %d", line, at, err)
			}
		}
	}
	many := strings.Repeat("tick 1\n", 400)
	if s, at, err := script.Parse("area 40\n" + many); err != api.OK || at != 0 || len(s.Events) != 400 {
		t.Errorf("Parse of the most: %d %d", at, err)
	}
	for _, more := range []string{"tick 1\n", "wrong\n", "tick 1"} {
		if _, at, err := script.Parse("area 40\n" + many + more); err != api.ErrScript || at != 8+400*7 {
			t.Errorf("Parse of one more: %d %d", at, err)
		}
	}
	for _, n := range []int{api.MaxScript + 1, 2 * api.MaxScript} {
		if s, at, err := script.Parse(strings.Repeat("x", n)); err != api.ErrLong || at != 0 || !script.Same(s, none) {
			t.Errorf("Parse of %d bytes: %d %d", n, at, err)
		}
	}
	if _, at, err := script.Parse(strings.Repeat("x", api.MaxScript)); err != api.ErrScript || at != 0 {
		t.Errorf("Parse of the longest: %d %d", at, err)
	}
}

// wrongLines tells lines that say nothing.
func wrongLines() []string {
	out := []string{
		"", " ", "tick", "tick ", "tick 01", "tick -1", "tick -0", "tick 21", "tick 1 1", "tick  1", " tick 1", "tick 1 ", "tick\t1", "Tick 1", "tick x", "tick 1.0", "tick 0x1", "tick 1_0", "tick +1", "tick 99999999999999999999", "ticks 1",
		"beat", "beat 3", "beat 8", "beat 4 0", "beat 04", "work 4", "work 0", "work 4 -1", "work 4 1073741825", "work 1 0", "pump 1", "pump 4 0", "come", "come -1", "come 0 0", "twice", "lose", "fall 4", "fall 1 0", "die 3", "die 0", "die 8", "die", "up 3", "up 1 0", "arm", "arm -1", "arm 1 1", "fail", "fail x",
		"crash", "crash ", "crash 2", "crash 1-", "crash --", "crash 1 0", "crash - 0", "crash 01 ", "crash " + strings.Repeat("0", api.MaxKeeps+1),
		"ask", "ask 1", "ask 3 stop", "ask 4 stop", "ask 0 stop", "ask 1 Stop", "ask 1 stop 0", "ask 1 cancel -", "ask 1 save 1", "ask 1 wrong", "ask stop",
		"ask 1 release", "ask 1 release -1", "ask 1 release 9223372036854775808", "ask 1 release 1 1", "ask 1 release 01", "ask 1 rescale", "ask 1 rescale 7", "ask 1 rescale 7 0", "ask 1 rescale 7 4", "ask 1 rescale 7 1 1 1 1 1 1 1 1 1", "ask 1 rescale -1 1", "ask 1 rescale 7 1 x", "ask 1 rescale 7 1  1",
		"ask 1 submit", "ask 1 submit -", "ask 1 submit - 0", "ask 1 submit " + bytes, "ask 1 submit " + bytes + "0 0", "ask 1 submit " + bytes + "00 0", "ask 1 submit " + bytes[:78] + " 0", "ask 1 submit " + strings.ToUpper(strings.Replace(bytes, "00", "0a", 1)) + " 0", "ask 1 submit " + bytes[:38] + "0G" + bytes[40:] + " 0", "ask 1 submit " + strings.Replace(bytes, "0701", "0704", 1) + " 0",
		"ask 1 submit " + bytes + " 1", "ask 1 submit " + bytes + " 1 0", "ask 1 submit " + bytes + " 1 0 1", "ask 1 submit " + bytes + " 1 0 1 5", "ask 1 submit " + bytes + " 1 0 1 32 0", "ask 1 submit " + bytes + " 1 0 1 -1 0", "ask 1 submit " + bytes + " 1 8 1 0 0", "ask 1 submit " + bytes + " 1 0 1 5 6 7", "ask 1 submit " + bytes + " 1 0 -1", "ask 1 submit " + bytes + " -1", "ask 1 submit " + bytes + " 5" + strings.Repeat(" 0 0", 5), "ask 1 submit " + bytes + " 1 0 41" + strings.Repeat(" 0 0", 41), "ask 1 submit " + bytes + " 1 0 9223372036854775807", "ask 1 submit " + bytes + " 9223372036854775807", "ask 1 submit " + bytes + " 0 0",
		"record 1 2 3", "area 40", "-", "0",
	}
	return out
}

// P32.3: the chapter's examples; Run, Play.
func TestRun(t *testing.T) {
	for _, r := range []struct {
		text, want string
		at         int
		err        api.Errno
	}{
		{"area 40\n", "", 0, api.OK},
		{lines("area 40", "tick 1", "die 1", "die 1"), lines("0 0 4 1 0 0 0 0 0", "0 0 0 1 0 0 0 -1 0", "4 0 0 1 0 0 0 -1 0"), 0, api.OK},
		{"area 40\ntick 0\n", "", 8, api.ErrScript},
		{strings.Repeat("x", api.MaxScript+1), "", 0, api.ErrLong},
		{lines("area 100", "tick 1", "ask 1 submit "+bytes+" 1 0 1 5 6", "ask 2 stop", "ask 1 save", "die 2", "up 2", "arm 0", "ask 1 cancel", "crash -"),
			lines("0 0 4 1 0 0 0 0 0", "0 0 4 1 0 0 0 1 0", "0 313 0 1 0 0 0 1 0", "0 0 6 1 0 0 0 1 0", "0 0 0 1 0 0 0 1 -1", "0 0 0 1 0 0 0 1 0", "0 0 0 1 0 0 0 1 0", "0 0 0 1 0 0 0 0 0", "0 0 0 1 0 0 0 0 0"), 0, api.OK},
	} {
		if got, at, err := script.Run(r.text); got != r.want || at != r.at || err != r.err {
			t.Errorf("Run(%.40q): %q %d %d", r.text, got, at, err)
		}
	}
}

// full makes a script of a job that is finished.
func full(rnd *rand.Rand) api.Script {
	in := []api.Input{{Records: []api.Record{{Key: 1, Value: -7}, {Key: 9, Value: 3}, {Key: 1, Value: 4}}}}
	l := []api.Event{event(api.EvTick, 0, 1), {Kind: api.EvAsk, Node: 1, Request: api.Request{Kind: api.ReqSubmit, Graph: pair, Inputs: in}}}
	for range 28 {
		l = append(l, event(api.EvCome, 0, 0), event(api.EvCome, 0, 0), event(api.EvCome, 0, 0), event(api.EvBeat, 4, 0), event(api.EvBeat, 5, 0), event(api.EvWork, 4, rnd.Intn(9)), event(api.EvPump, 4, 0), event(api.EvPump, 5, 0), event(api.EvCome, 0, 0), event(api.EvCome, 0, 0), event(api.EvWork, 5, 0), event(api.EvTick, 0, 1))
	}
	for range 20 {
		l = append(l, event(api.EvCome, 0, 0))
	}
	return api.Script{Area: 100, Events: l}
}

// watched tells the transcript of a script, event by event.
func watched(s api.Script) string {
	w, _ := world.New(s.Area)
	state := func(id int) int {
		m, up := w.Manager(id)
		if !up {
			return -1
		}
		return m.Job.State
	}
	out := ""
	for _, e := range s.Events {
		o := w.Step(e)
		rows := 0
		if w.Store() != nil {
			rows = len(w.Store().Shelf().Rows)
		}
		out += fmt.Sprintln(int(o.Err), int(o.Answer), o.Said, w.Now(), len(w.Log().Log), len(w.Log().Done), rows, state(1), state(2))
	}
	for _, r := range w.Log().Log {
		out += fmt.Sprintln("record", r.Source, r.Key, r.Value)
	}
	return out
}

// P32.3, P32.4, P8: a script tells the same whenever it is played; there and back.
func TestFollows(t *testing.T) {
	rnd := rand.New(rand.NewSource(32))
	events, _ := said()
	finished := false
	for round := range 40 {
		s := full(rnd)
		for range rnd.Intn(1 + round*2) {
			s.Events[2+rnd.Intn(len(s.Events)-2)] = events[rnd.Intn(len(events))]
		}
		text, err := script.Print(s)
		if err != api.OK {
			t.Fatal(err)
		}
		back, at, err := script.Parse(text)
		if err != api.OK || at != 0 || !script.Same(back, s) {
			t.Fatalf("Parse of Print: %d %d", at, err)
		}
		if again, err := script.Print(back); err != api.OK || again != text {
			t.Fatalf("Print of Parse: %d", err)
		}
		want := watched(s)
		a, err := script.Play(s)
		b, at, err2 := script.Run(text)
		if err != api.OK || err2 != api.OK || at != 0 || a != want || b != want {
			t.Fatalf("Play, Run: %d %d: %s, not %s", err, err2, a, want)
		}
		finished = finished || strings.Contains(want, "record 0 1 -7\n")
		// A text that is wrong from a line on is wrong there.
		i := rnd.Intn(len(text))
		changed := text[:i] + string("x- 1\n"[rnd.Intn(5)]) + text[i+1:]
		if s, at, err := script.Parse(changed); err == api.OK {
			if again, _ := script.Print(s); again != changed {
				t.Fatalf("%q is read, and is none", changed)
			}
		} else if begin := strings.LastIndexByte(changed[:i], '\n') + 1; at > i+1 || at < begin && changed[i] != '\n' || err != api.ErrScript {
			t.Fatalf("changed at %d, wrong at %d: %d", i, at, err)
		}
	}
	if !finished {
		t.Errorf("nothing is committed")
	}
}

// R3: what is handed in stays as it was.
func TestShares(t *testing.T) {
	events, _ := said()
	s := of(events...)
	text, _ := script.Print(s)
	script.Play(s)
	x, _, _ := script.Parse(text)
	for i := range x.Events {
		x.Events[i].Node = 99
		for j := range x.Events[i].Request.Graph.Ops {
			x.Events[i].Request.Graph.Ops[j].Width = 99
		}
	}
	if again, err := script.Print(s); err != api.OK || again != text {
		t.Errorf("changed: %d", err)
	}
}
