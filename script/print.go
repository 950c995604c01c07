package script

import (
	"strconv"
	"strings"

	"headrace/api"
	"headrace/graph"
)

// nothing is what stands for no bytes, and no places.
const nothing = "-"

// digits are those of bytes.
const digits = "0123456789abcdef"

// writer writes lines, part by part.
type writer struct {
	strings.Builder
	begun bool
}

// word lays a part of a line.
func (w *writer) word(part string) {
	if w.begun {
		w.WriteByte(' ')
	}
	w.begun = true
	w.WriteString(part)
}

// numbers lays numbers as parts of a line.
func (w *writer) numbers(l ...int) {
	for _, x := range l {
		w.word(strconv.Itoa(x))
	}
}

// end ends a line.
func (w *writer) end() {
	w.WriteByte('\n')
	w.begun = false
}

// bytes lays bytes as a part of a line.
func (w *writer) bytes(b []byte) {
	var part strings.Builder
	for _, x := range b {
		part.WriteByte(digits[x>>4])
		part.WriteByte(digits[x&15])
	}
	if len(b) == 0 {
		part.WriteString(nothing)
	}
	w.word(part.String())
}

// places lays which writes live on as a part of a line.
func (w *writer) places(keep []bool) {
	part := []byte{}
	for _, kept := range keep {
		x := byte('0')
		if kept {
			x = '1'
		}
		part = append(part, x)
	}
	if len(keep) == 0 {
		part = []byte(nothing)
	}
	w.word(string(part))
}

// request lays a request that may be.
func (w *writer) request(r api.Request) {
	w.word(requestWordOf(r.Kind))
	switch r.Kind {
	case api.ReqSubmit:
		b, _ := graph.Encode(r.Graph)
		w.bytes(b)
		w.numbers(len(r.Inputs))
		for _, x := range r.Inputs {
			w.numbers(x.Source, len(x.Records))
			for _, rec := range x.Records {
				w.numbers(rec.Key, int(rec.Value))
			}
		}
	case api.ReqRelease, api.ReqRescale:
		w.numbers(int(r.Number))
		w.numbers(r.Widths...)
	}
}

// event lays the line of an event that may be.
func (w *writer) event(e api.Event) {
	w.word(wordOf(e.Kind))
	if hasNode(e.Kind) {
		w.numbers(e.Node)
	}
	if hasNumber(e.Kind) {
		w.numbers(e.N)
	}
	switch e.Kind {
	case api.EvCrash:
		w.places(e.Keep)
	case api.EvAsk:
		w.request(e.Request)
	}
	w.end()
}

// Print tells the lines of a script.
func Print(s api.Script) (string, api.Errno) {
	if err := Check(s); err != api.OK {
		return "", err
	}
	w := &writer{}
	w.word("area")
	w.numbers(s.Area)
	w.end()
	for _, e := range s.Events {
		w.event(e)
	}
	if w.Len() > api.MaxScript {
		return "", api.ErrLong
	}
	return w.String(), api.OK
}
