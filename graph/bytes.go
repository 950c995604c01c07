package graph

import (
	"headrace/api"
	"headrace/octet"
)

// Encode tells the bytes of a graph.
func Encode(g api.Graph) ([]byte, api.Errno) {
	if _, err := Check(g); err != api.OK {
		return nil, err
	}
	out := []byte{byte(len(g.Ops))}
	for _, o := range g.Ops {
		out = append(out, byte(o.Tag), byte(o.Width))
		out = octet.Put64(out, uint64(o.A))
		out = octet.Put64(out, uint64(o.B))
		out = append(out, byte(len(o.Inputs)))
		for _, x := range o.Inputs {
			out = append(out, byte(x))
		}
	}
	return out, api.OK
}

// count reads how many there are of something: more than MaxOps is wrong at once.
func count(r *octet.Reader) (int, api.Errno) {
	n := int(r.U8())
	if n > api.MaxOps {
		return 0, api.ErrGraph
	}
	return n, r.Err()
}

// operator reads an operator, whether it may be or not.
func operator(r *octet.Reader) (o api.Op, err api.Errno) {
	o.Tag, o.Width = int(r.U8()), int(r.U8())
	o.A, o.B = int64(r.U64()), int64(r.U64())
	n, err := count(r)
	for range n {
		o.Inputs = append(o.Inputs, int(r.U8()))
	}
	if err == api.OK {
		err = r.Err()
	}
	return o, err
}

// Decode tells the graph that the bytes are of.
func Decode(b []byte) (api.Graph, api.Errno) {
	r := octet.Read(b)
	n, err := count(r)
	var g api.Graph
	for i := 0; i < n && err == api.OK; i++ {
		var o api.Op
		o, err = operator(r)
		g.Ops = append(g.Ops, o)
	}
	if err != api.OK {
		return api.Graph{}, err
	}
	if _, err := Check(g); err != api.OK || r.Left() > 0 {
		return api.Graph{}, api.ErrGraph
	}
	return g, api.OK
}
