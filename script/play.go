package script

import (
	"headrace/api"
	"headrace/world"
)

// stateOf tells the State of a manager's job; -1, if that is down.
func stateOf(w *world.World, id int) int {
	m, up := w.Manager(id)
	if !up {
		return -1
	}
	return m.Job.State
}

// rows tells how many rows the shelf has.
func rows(w *world.World) int {
	if w.Store() == nil {
		return 0
	}
	return len(w.Store().Shelf().Rows)
}

// transcript tells what comes of a script that may be.
func transcript(s api.Script) (string, api.Errno) {
	w, err := world.New(s.Area)
	if err != api.OK {
		return "", err
	}
	out := &writer{}
	for _, e := range s.Events {
		o := w.Step(e)
		out.numbers(int(o.Err), int(o.Answer), o.Said, int(w.Now()))
		out.numbers(len(w.Log().Log), len(w.Log().Done), rows(w), stateOf(w, 1), stateOf(w, 2))
		out.end()
	}
	for _, r := range w.Log().Log {
		out.word("record")
		out.numbers(r.Source, r.Key, int(r.Value))
		out.end()
	}
	return out.String(), api.OK
}

// Play tells the transcript of a script.
func Play(s api.Script) (string, api.Errno) {
	if err := Check(s); err != api.OK {
		return "", err
	}
	return transcript(s)
}

// Run tells the transcript of the script whose lines a text is; or where it is wrong.
func Run(text string) (string, int, api.Errno) {
	s, at, err := Parse(text)
	if err != api.OK {
		return "", at, err
	}
	told, err := transcript(s)
	return told, 0, err
}
