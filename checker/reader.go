package checker

import "circheck/api"

// ended is what peek answers where there is no byte to read.
const ended = -1

// mostDigits is how long a number may be.
const mostDigits = 4

// reader walks over a file. It keeps the first fault that it meets with and reads nothing behind it, so that its callers need not ask after each byte.
type reader struct {
	file  string
	pos   int
	fault api.Fault
}

func (r *reader) failed() bool { return r.fault.E != api.OK }

func (r *reader) fail(e api.Errno, pos int) {
	if r.fault.E == api.OK {
		r.fault = api.Fault{E: e, Pos: pos}
	}
}

// peek answers the byte that is next, or ended.
func (r *reader) peek() int {
	if r.fault.E != api.OK || r.pos < 0 || r.pos >= len(r.file) {
		return ended
	}
	return int(r.file[r.pos])
}

// take reads the byte if it is next, and tells whether it was.
func (r *reader) take(b int) bool {
	if r.peek() != b {
		return false
	}
	r.pos++
	return true
}

// expect reads a byte that must be next.
func (r *reader) expect(b int) {
	if !r.take(b) {
		r.fail(api.ErrSyntax, r.pos)
	}
}

func isDigit(b int) bool { return b >= '0' && b <= '9' }

// number reads all of a number's digits: a fault among them comes ahead of every fault of its value.
func (r *reader) number() int {
	start := r.pos
	value := 0
	for b := r.peek(); isDigit(b); b = r.peek() {
		digits := r.pos - start
		if digits == mostDigits || (digits > 0 && value == 0) {
			r.fail(api.ErrSyntax, r.pos)
			return 0
		}
		value = 10*value + b - '0'
		r.pos++
	}
	if r.pos == start {
		r.fail(api.ErrSyntax, r.pos)
	}
	return value
}

// difference reads a number of the binary form: one byte, or two.
func (r *reader) difference() int {
	low := r.byteBelow(256)
	if low < 128 {
		return low
	}
	high := r.byteBelow(128)
	return low - 128 + 128*high
}

// byteBelow reads a byte that must be below a bound.
func (r *reader) byteBelow(bound int) int {
	b := r.peek()
	if b == ended || b >= bound {
		r.fail(api.ErrSyntax, r.pos)
		return 0
	}
	r.pos++
	return b
}
