package checker

import "circheck/api"

// Read reads a file of either form (P3 to P5).
func Read(file string) (*Circuit, api.Fault) {
	if len(file) > api.MaxBytes {
		return nil, api.Fault{E: api.ErrLong}
	}
	r := &reader{file: file}
	h := r.header()
	h.judge(r)
	if r.failed() {
		return nil, r.fault
	}
	n := newNetlist(h.top)
	if h.binary {
		n.readBinary(r, h)
	} else {
		n.readPlain(r, h)
	}
	r.symbols(h)
	n.judgeUses(r)
	if r.failed() {
		return nil, r.fault
	}
	return arrange(n)
}

// The numbers of a header: at least and at most so many.
const (
	fewestCounts = 5
	mostCounts   = 9
)

// header is what a file's first line says.
type header struct {
	binary  bool
	top     int // the greatest variable
	inputs  int
	latches int
	outputs int
	gates   int
	bads    int
	others  int // constraints and what stands behind them, together
}

func (r *reader) header() header {
	r.expect('a')
	binary := r.take('i')
	if !binary {
		r.expect('a')
	}
	r.expect('g')
	var n [mostCounts]int
	for k := 0; k < mostCounts; k++ {
		if k >= fewestCounts && r.peek() != ' ' {
			break
		}
		r.expect(' ')
		n[k] = r.number()
	}
	r.expect('\n')
	return header{
		binary: binary, top: n[0],
		inputs: n[1], latches: n[2], outputs: n[3], gates: n[4], bads: n[5],
		others: n[6] + n[7] + n[8],
	}
}

// judge finds the faults of a header that is well written.
func (h header) judge(r *reader) {
	if h.top > api.MaxIndex || h.inputs > api.MaxIn || h.latches > api.MaxLatch || h.outputs > api.MaxOut || h.gates > api.MaxAnd {
		r.fail(api.ErrLimit, 0)
	}
	named := h.inputs + h.latches + h.gates
	if named > h.top || (h.binary && named != h.top) {
		r.fail(api.ErrCount, 0)
	}
	if h.others != 0 {
		r.fail(api.ErrKind, 0)
	}
	if h.bads > 1 || (h.bads == 0 && h.outputs != 1) {
		r.fail(api.ErrProp, 0)
	}
}

// symbols reads what stands behind the circuit, up to the file's end or to where anything may stand.
func (r *reader) symbols(h header) {
	for r.pos < len(r.file) && !r.failed() {
		if r.take('c') {
			r.expect('\n')
			return
		}
		r.symbol(h)
	}
}

func (r *reader) symbol(h header) {
	count := 0
	switch r.peek() {
	case 'i':
		count = h.inputs
	case 'l':
		count = h.latches
	case 'o':
		count = h.outputs
	case 'b':
		count = h.bads
	default:
		r.fail(api.ErrSyntax, r.pos)
		return
	}
	r.pos++
	start := r.pos
	index := r.number()
	if index >= count {
		r.fail(api.ErrSyntax, start)
	}
	r.expect(' ')
	r.name()
}

// name reads at least one byte and a line end.
func (r *reader) name() {
	start := r.pos
	for b := r.peek(); b != ended && b != '\n'; b = r.peek() {
		r.pos++
	}
	if r.pos == start {
		r.fail(api.ErrSyntax, r.pos)
	}
	r.expect('\n')
}
