package script

import (
	"strconv"
	"strings"

	"headrace/api"
	"headrace/graph"
)

// line is what is left of a line's parts, and whether something was no part as it has to be.
type line struct {
	parts []string
	wrong bool
}

// next tells the next part.
func (l *line) next() string {
	if len(l.parts) == 0 {
		l.wrong = true
		return ""
	}
	part := l.parts[0]
	l.parts = l.parts[1:]
	return part
}

// number reads a number, if it is one of its kind, and written as numbers are.
func number[T int | int64 | uint64](l *line, to *T) {
	part := l.next()
	x, err := strconv.ParseInt(part, 10, 64)
	*to = T(x)
	l.wrong = l.wrong || err != nil || strconv.FormatInt(x, 10) != part || (*to < 0) != (x < 0)
}

// count reads how many there are of something, and tells it, if that is not above a limit.
func count(l *line, limit int) (n int) {
	if number(l, &n); n < 0 || n > limit {
		l.wrong = true
	}
	if l.wrong {
		return 0
	}
	return n
}

// bytes reads bytes.
func (l *line) bytes() (out []byte) {
	part := l.next()
	if part == nothing {
		return nil
	}
	l.wrong = l.wrong || part == "" || len(part)%2 > 0
	for i := 0; i+1 < len(part); i += 2 {
		high, low := strings.IndexByte(digits, part[i]), strings.IndexByte(digits, part[i+1])
		l.wrong = l.wrong || high < 0 || low < 0
		out = append(out, byte(high<<4|low))
	}
	return out
}

// places reads which writes live on.
func (l *line) places() (out []bool) {
	part := l.next()
	if part == nothing {
		return nil
	}
	l.wrong = l.wrong || part == ""
	for _, x := range []byte(part) {
		l.wrong = l.wrong || x != '0' && x != '1'
		out = append(out, x == '1')
	}
	return out
}

// input reads an input.
func (l *line) input() (x api.Input) {
	number(l, &x.Source)
	for range count(l, api.MaxInput) {
		r := api.Record{Source: x.Source}
		number(l, &r.Key)
		number(l, &r.Value)
		x.Records = append(x.Records, r)
	}
	return x
}

// kind reads a word, and tells which one it is of those that of tells.
func (l *line) kind(kinds int, of func(kind int) string) int {
	word := l.next()
	for kind := 1; kind < kinds; kind++ {
		if of(kind) == word {
			return kind
		}
	}
	l.wrong = true
	return 0
}

// request reads a request.
func (l *line) request() (r api.Request) {
	r.Kind = l.kind(requests, requestWordOf)
	switch r.Kind {
	case api.ReqSubmit:
		g, err := graph.Decode(l.bytes())
		r.Graph, l.wrong = g, l.wrong || err != api.OK
		for range count(l, api.MaxSources) {
			r.Inputs = append(r.Inputs, l.input())
		}
	case api.ReqRelease:
		number(l, &r.Number)
	case api.ReqRescale:
		number(l, &r.Number)
		for !l.wrong && len(l.parts) > 0 {
			var w int
			number(l, &w)
			r.Widths = append(r.Widths, w)
		}
	}
	return r
}

// event reads an event.
func (l *line) event() (e api.Event) {
	e.Kind = l.kind(events, wordOf)
	if hasNode(e.Kind) {
		number(l, &e.Node)
	}
	if hasNumber(e.Kind) {
		number(l, &e.N)
	}
	switch e.Kind {
	case api.EvCrash:
		e.Keep = l.places()
	case api.EvAsk:
		e.Request = l.request()
	}
	return e
}

// ends tells whether all parts were read, and were as they have to be.
func (l *line) ends() bool { return !l.wrong && len(l.parts) == 0 }

// readArea reads the line of the area.
func readArea(s *api.Script, l *line) bool {
	if l.next() != "area" {
		return false
	}
	number(l, &s.Area)
	return l.ends() && isArea(s.Area)
}

// readEvent reads the line of an event.
func readEvent(s *api.Script, l *line) bool {
	if len(s.Events) >= api.MaxEvents {
		return false
	}
	e := l.event()
	s.Events = append(s.Events, e)
	return l.ends() && mayHappen(e)
}

// Parse tells the script whose lines a text is; or where the first line begins that is wrong.
func Parse(text string) (api.Script, int, api.Errno) {
	if len(text) > api.MaxScript {
		return api.Script{}, 0, api.ErrLong
	}
	var s api.Script
	read, at := readArea, 0
lines:
	for at < len(text) {
		end := strings.IndexByte(text[at:], '\n')
		switch {
		case end < 0:
			break lines
		case !read(&s, &line{parts: strings.Split(text[at:at+end], " ")}):
			break lines
		}
		read = readEvent
		at += end + 1
	}
	if at < len(text) || at == 0 {
		return api.Script{}, at, api.ErrScript
	}
	return s, 0, api.OK
}
