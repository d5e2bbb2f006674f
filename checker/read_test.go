package checker_test

import (
	"reflect"
	"strings"
	"testing"

	"circheck/api"
	"circheck/checker"
)

// faulty is a file with the fault that Read must find in it (OK: none).
type faulty struct {
	file string
	e    api.Errno
	pos  int
}

func checkFaults(t *testing.T, files []faulty) {
	t.Helper()
	for _, f := range files {
		c, got := checker.Read(f.file)
		if got.E != f.e || got.Pos != f.pos {
			t.Errorf("P3: Read(%.80q) = %d at %d, want %d at %d", f.file, got.E, got.Pos, f.e, f.pos)
		}
		if (c == nil) != (f.e != api.OK) {
			t.Errorf("P3: Read(%.80q) has a circuit: %v, with fault %d", f.file, c != nil, got.E)
		}
		checkRunFault(t, f)
	}
}

// checkRunFault: a run of a file has the file's fault, whatever there is to spend, and nothing beside it.
func checkRunFault(t *testing.T, f faulty) {
	t.Helper()
	fault := api.Fault{E: f.e, Pos: f.pos}
	for _, budget := range []int{0, 5, api.Enough} {
		r := checker.Run(f.file, budget)
		if r == nil || r.F != fault || (r.V == api.Bad) != (f.e != api.OK) {
			t.Errorf("P12: Run(%.80q, %d) = %+v, want the fault %+v", f.file, budget, r, fault)
			continue
		}
		if f.e != api.OK && !reflect.DeepEqual(r, &api.Result{F: fault}) {
			t.Errorf("P12: Run(%.80q, %d) = %+v, want nothing beside the fault", f.file, budget, r)
		}
	}
}

// The document's own table.
func TestReadTable(t *testing.T) {
	checkFaults(t, []faulty{
		{"", api.ErrSyntax, 0},
		{"aag", api.ErrSyntax, 3},
		{"aag 0 0 0 1 0", api.ErrSyntax, 13},
		{"aag 0 0 0 1 0\n", api.ErrSyntax, 14},
		{"aag 0 0 0 1 0\n2\n", api.ErrLit, 14},
		{"aag 00 0 0 1 0\n0\n", api.ErrSyntax, 5},
		{"aag 0  0 0 1 0\n0\n", api.ErrSyntax, 6},
		{"aag 12345 0 0 1 0\n0\n", api.ErrSyntax, 8},
		{"aag 81 0 0 1 0\n0\n", api.ErrLimit, 0},
		{"aag 0 1 0 1 0\n0\n", api.ErrCount, 0},
		{"aig 1 0 0 1 0\n0\n", api.ErrCount, 0},
		{"aag 0 0 0 1 0 0 1\n0\n0\n", api.ErrKind, 0},
		{"aag 0 0 0 0 0\n", api.ErrProp, 0},
		{"aag 0 0 0 2 0\n0\n1\n", api.ErrProp, 0},
		{"aag 0 0 0 0 0 2\n0\n1\n", api.ErrProp, 0},
		{"aag 1 1 0 1 0\n3\n2\n", api.ErrDef, 14},
		{"aag 1 1 0 1 0\n0\n2\n", api.ErrDef, 14},
		{"aag 2 2 0 1 0\n2\n2\n2\n", api.ErrDef, 16},
		{"aag 1 0 1 1 0\n2 2 3\n2\n", api.ErrReset, 18},
		{"aag 1 0 1 1 0\n2 2 2\n2\n", api.OK, 0},
		{"aag 2 1 0 1 0\n2\n4\n", api.ErrUndef, 16},
		{"aag 2 0 0 1 2\n2\n2 4 4\n4 2 2\n", api.ErrCycle, 16},
		{"aag 1 0 0 1 1\n2\n2 3 1\n", api.ErrCycle, 16},
		{"aag 0 0 0 1 0\n0\nx", api.ErrSyntax, 16},
		{"aag 0 0 0 1 0\n0\no1 x\n", api.ErrSyntax, 17},
		{"aag 0 0 0 1 0\n0\no0 x\nc\n\x00", api.OK, 0},
		{"aag 0 0 0 1 0\n0\no0 \n", api.ErrSyntax, 19},
		{"aig 1 0 0 1 1\n2\n\x00\x00", api.ErrDelta, 16},
		{"aig 1 0 0 1 1\n2\n\x03\x00", api.ErrDelta, 16},
		{"aig 1 0 0 1 1\n2\n\x01\x02", api.ErrDelta, 17},
		{"aig 1 0 0 1 1\n2\n\x80\x80", api.ErrSyntax, 17},
		{"aig 1 0 0 1 1\n2\n\x01\x01", api.OK, 0},
		{"aig 1 0 0 1 1\n2\n\x01", api.ErrSyntax, 17},
	})
}

func TestReadLong(t *testing.T) {
	start := "aag 0 0 0 1 0\n0\nc\n"
	checkFaults(t, []faulty{
		{start + strings.Repeat("\xff", api.MaxBytes-len(start)), api.OK, 0},
		{start + strings.Repeat("\xff", api.MaxBytes-len(start)+1), api.ErrLong, 0},
		{strings.Repeat("x", api.MaxBytes), api.ErrSyntax, 0},
		{strings.Repeat("x", api.MaxBytes+1), api.ErrLong, 0},
	})
}

func TestReadHeaderSyntax(t *testing.T) {
	checkFaults(t, []faulty{
		{"b", api.ErrSyntax, 0}, {" aag 0 0 0 1 0\n0\n", api.ErrSyntax, 0}, {"AAG 0 0 0 1 0\n0\n", api.ErrSyntax, 0},
		{"a", api.ErrSyntax, 1}, {"ag", api.ErrSyntax, 1}, {"a\x00g", api.ErrSyntax, 1},
		{"aa", api.ErrSyntax, 2}, {"ai", api.ErrSyntax, 2}, {"aai", api.ErrSyntax, 2}, {"aia", api.ErrSyntax, 2},
		{"aig", api.ErrSyntax, 3}, {"aag\n", api.ErrSyntax, 3}, {"aag\t0", api.ErrSyntax, 3}, {"aagx", api.ErrSyntax, 3},
		{"aag ", api.ErrSyntax, 4}, {"aag -1", api.ErrSyntax, 4}, {"aag +1", api.ErrSyntax, 4}, {"aag x", api.ErrSyntax, 4}, {"aag /", api.ErrSyntax, 4}, {"aag :", api.ErrSyntax, 4},
		{"aag 1x", api.ErrSyntax, 5}, {"aag 1", api.ErrSyntax, 5}, {"aag 1\n", api.ErrSyntax, 5},
		{"aag 0 0 0 1", api.ErrSyntax, 11}, {"aag 0 0 0 1\n", api.ErrSyntax, 11},
		{"aag 0 0 0 1 01", api.ErrSyntax, 13}, {"aag 0 0 0 1 0\r\n0\n", api.ErrSyntax, 13},
		{"aag 0 0 0 1 0 ", api.ErrSyntax, 14}, {"aag 0 0 0 1 0 \n", api.ErrSyntax, 14},
		{"aag 9999 9999 9999 9999 99999", api.ErrSyntax, 28},
		{"aag 0 0 0 1 0 0 0 0 0 0\n", api.ErrSyntax, 21}, {"aag 0 0 0 1 0 0 0 0 0 \n", api.ErrSyntax, 21}, {"aag 0 0 0 1 0 0 0 0 00\n", api.ErrSyntax, 21}, {"aag 0 0 0 1 0 0 0 0 0", api.ErrSyntax, 21},
		{"aag 0 0 0 1 0 0 0 0 0\n0\n", api.OK, 0}, {"aag 0 0 0 1 0 0 0 0\n0\n", api.OK, 0}, {"aag 0 0 0 1 0 0 0\n0\n", api.OK, 0}, {"aag 0 0 0 1 0 0\n0\n", api.OK, 0}, {"aag 0 0 0 1 0\n0\n", api.OK, 0},
	})
}

// A header's own faults, and which of them comes first.
func TestReadHeaderNumbers(t *testing.T) {
	checkFaults(t, []faulty{
		{"aag 80 0 0 1 0\n0\n", api.OK, 0}, {"aag 9999 0 0 1 0\n0\n", api.ErrLimit, 0},
		{"aag 4 4 0 1 0\n2\n4\n6\n8\n0\n", api.OK, 0}, {"aag 80 5 0 1 0\n", api.ErrLimit, 0},
		{"aag 6 0 6 1 0\n2 0\n4 0\n6 0\n8 0\n10 0\n12 0\n0\n", api.OK, 0}, {"aag 80 0 7 1 0\n", api.ErrLimit, 0},
		{"aag 0 0 0 4 0 1\n0\n1\n0\n1\n0\n", api.OK, 0}, {"aag 80 0 0 5 0 1\n", api.ErrLimit, 0},
		{"aig 60 0 0 1 60\n0\n" + strings.Repeat("\x01\x00", 60), api.OK, 0}, {"aag 80 0 0 1 61\n", api.ErrLimit, 0},
		{"aag 70 4 6 1 60\n", api.ErrSyntax, 16}, {"aag 69 4 6 1 60\n", api.ErrCount, 0}, {"aig 69 4 6 1 60\n", api.ErrCount, 0}, {"aig 71 4 6 1 60\n", api.ErrCount, 0},
		{"aag 1 0 1 1 1\n", api.ErrCount, 0}, {"aag 1 1 1 1 0\n", api.ErrCount, 0}, {"aag 1 1 0 1 1\n", api.ErrCount, 0},
		{"aag 1 0 0 1 0\n0\n", api.OK, 0}, {"aig 0 0 0 1 0\n0\n", api.OK, 0},
		{"aag 0 0 0 1 0 0 1\n0\n", api.ErrKind, 0}, {"aag 0 0 0 1 0 0 0 1\n0\n", api.ErrKind, 0}, {"aag 0 0 0 1 0 0 0 0 1\n0\n", api.ErrKind, 0}, {"aag 0 0 0 1 0 0 9999 9999 9999\n0\n", api.ErrKind, 0},
		{"aag 0 0 0 1 0 0 1 1\n0\n", api.ErrKind, 0}, {"aag 0 0 0 1 0 0 1 0 1\n0\n", api.ErrKind, 0}, {"aag 0 0 0 1 0 0 0 1 1\n0\n", api.ErrKind, 0},
		{"aag 0 0 0 0 0 0\n", api.ErrProp, 0}, {"aag 0 0 0 1 0 2\n0\n0\n0\n", api.ErrProp, 0}, {"aag 0 0 0 0 0 9999\n", api.ErrProp, 0}, {"aag 0 0 0 3 0 0\n0\n0\n0\n", api.ErrProp, 0},
		{"aag 0 0 0 0 0 1\n0\n", api.OK, 0}, {"aag 0 0 0 2 0 1\n0\n0\n0\n", api.OK, 0},
		{"aag 0 5 0 2 0 0 1\n", api.ErrLimit, 0}, {"aag 0 1 0 2 0 0 1\n", api.ErrCount, 0}, {"aag 0 0 0 2 0 0 1\n", api.ErrKind, 0},
		{"aag 81 5 7 5 61 2 1 1 1", api.ErrSyntax, 23},
	})
}

func TestReadPlainFaults(t *testing.T) {
	checkFaults(t, []faulty{
		// inputs
		{"aag 1 1 0 1 0\n", api.ErrSyntax, 14}, {"aag 1 1 0 1 0\n\n", api.ErrSyntax, 14}, {"aag 1 1 0 1 0\nx", api.ErrSyntax, 14}, {"aag 1 1 0 1 0\n 2", api.ErrSyntax, 14},
		{"aag 1 1 0 1 0\n2", api.ErrSyntax, 15}, {"aag 1 1 0 1 0\n2 \n", api.ErrSyntax, 15}, {"aag 1 1 0 1 0\n2\r\n", api.ErrSyntax, 15}, {"aag 1 1 0 1 0\n02\n", api.ErrSyntax, 15},
		{"aag 1 1 0 1 0\n12345\n", api.ErrSyntax, 18}, {"aag 1 1 0 1 0\n9999\n", api.ErrLit, 14}, {"aag 1 1 0 1 0\n4\n", api.ErrLit, 14}, {"aag 1 1 0 1 0\n5\n", api.ErrLit, 14}, {"aag 1 1 0 1 0\n4x", api.ErrLit, 14},
		{"aag 1 1 0 1 0\n1\n", api.ErrDef, 14}, {"aag 1 1 0 1 0\n0\n", api.ErrDef, 14}, {"aag 1 1 0 1 0\n3\n", api.ErrDef, 14}, {"aag 1 1 0 1 0\n3x", api.ErrDef, 14},
		// latches
		{"aag 1 0 1 1 0\n2\n", api.ErrSyntax, 15}, {"aag 1 0 1 1 0\n2  2\n", api.ErrSyntax, 16}, {"aag 1 0 1 1 0\n2 2x", api.ErrSyntax, 17}, {"aag 1 0 1 1 0\n2 2", api.ErrSyntax, 17},
		{"aag 1 0 1 1 0\n2 2 \n", api.ErrSyntax, 18}, {"aag 1 0 1 1 0\n2 2 0 \n", api.ErrSyntax, 19}, {"aag 1 0 1 1 0\n2 2 00\n", api.ErrSyntax, 19}, {"aag 1 0 1 1 0\n2 2 12345\n", api.ErrSyntax, 22},
		{"aag 1 0 1 1 0\n1 2\n", api.ErrDef, 14}, {"aag 1 0 1 1 0\n0 2\n", api.ErrDef, 14}, {"aag 2 1 1 1 0\n4\n4 4\n", api.ErrDef, 16}, {"aag 2 0 2 1 0\n2 0\n2 0\n", api.ErrDef, 18}, {"aag 1 0 1 1 0\n4 0\n", api.ErrLit, 14},
		{"aag 1 0 1 1 0\n2 4\n", api.ErrLit, 16}, {"aag 1 0 1 1 0\n2 4 9\n", api.ErrLit, 16}, {"aag 1 0 1 1 0\n2 0 9999\n", api.ErrReset, 18}, {"aag 2 1 1 1 0\n2\n4 0 2\n", api.ErrReset, 20}, {"aag 1 0 1 1 0\n2 0 3x", api.ErrReset, 18},
		{"aag 1 0 1 1 0\n2 3 0\n2\n", api.OK, 0}, {"aag 1 0 1 1 0\n2 3 1\n2\n", api.OK, 0}, {"aag 1 0 1 1 0\n2 3 2\n2\n", api.OK, 0}, {"aag 1 0 1 1 0\n2 3\n2\n", api.OK, 0},
		// outputs, bads
		{"aag 0 0 0 1 0\n1", api.ErrSyntax, 15}, {"aag 0 0 0 1 0\n1 \n", api.ErrSyntax, 15}, {"aag 0 0 0 1 0\n3\n", api.ErrLit, 14}, {"aag 0 0 0 2 0 1\n0\n2\n0\n", api.ErrLit, 18}, {"aag 0 0 0 0 0 1\n2\n", api.ErrLit, 16}, {"aag 0 0 0 1 0 1\n0\n", api.ErrSyntax, 18}, {"aag 0 0 0 1 0 1\n0\n7\n", api.ErrLit, 18},
		// gates
		{"aag 1 0 0 1 1\n0\n", api.ErrSyntax, 16}, {"aag 1 0 0 1 1\n0\n2\n", api.ErrSyntax, 17}, {"aag 1 0 0 1 1\n0\n2 0\n", api.ErrSyntax, 19}, {"aag 1 0 0 1 1\n0\n2 0 \n", api.ErrSyntax, 20}, {"aag 1 0 0 1 1\n0\n2 0 0", api.ErrSyntax, 21}, {"aag 1 0 0 1 1\n0\n2 0 0 0\n", api.ErrSyntax, 21},
		{"aag 1 0 0 1 1\n0\n4 0 0\n", api.ErrLit, 16}, {"aag 1 0 0 1 1\n0\n2 4 9\n", api.ErrLit, 18}, {"aag 1 0 0 1 1\n0\n2 0 4\n", api.ErrLit, 20},
		{"aag 1 0 0 1 1\n0\n3 0 0\n", api.ErrDef, 16}, {"aag 1 0 0 1 1\n0\n0 0 0\n", api.ErrDef, 16}, {"aag 1 0 0 1 1\n0\n1 0 0\n", api.ErrDef, 16}, {"aag 2 1 0 1 1\n2\n0\n2 0 0\n", api.ErrDef, 18}, {"aag 2 0 1 1 1\n4 0\n0\n4 0 0\n", api.ErrDef, 20}, {"aag 2 0 0 1 2\n0\n4 0 0\n4 0 0\n", api.ErrDef, 22},
		// the greatest literal
		{"aag 80 0 0 1 0\n161\n", api.ErrUndef, 15}, {"aag 80 0 0 1 0\n162\n", api.ErrLit, 15}, {"aag 80 1 0 1 0\n160\n161\n", api.OK, 0},
	})
}

func TestReadBinaryFaults(t *testing.T) {
	checkFaults(t, []faulty{
		{"aig 1 1 0 1 0\n3\n", api.OK, 0}, {"aig 1 1 0 1 0\n4\n", api.ErrLit, 14},
		{"aig 1 0 1 1 0\n3\n2\n", api.OK, 0}, {"aig 1 0 1 1 0\n4\n2\n", api.ErrLit, 14}, {"aig 1 0 1 1 0\n2 2\n2\n", api.OK, 0}, {"aig 1 0 1 1 0\n2 3\n2\n", api.ErrReset, 16}, {"aig 2 1 1 1 0\n2 2\n2\n", api.ErrReset, 16}, {"aig 2 1 1 1 0\n2 4\n2\n", api.OK, 0},
		{"aig 1 0 1 1 0\n2 2 2\n2\n", api.ErrSyntax, 17}, {"aig 1 0 1 1 0\n\n2\n", api.ErrSyntax, 14},
		{"aig 1 0 0 1 1\n2\n", api.ErrSyntax, 16}, {"aig 1 0 0 1 1\n2\n\x00", api.ErrDelta, 16}, {"aig 1 0 0 1 1\n2\n\x03", api.ErrDelta, 16}, {"aig 1 0 0 1 1\n2\n\x02", api.ErrSyntax, 17}, {"aig 1 0 0 1 1\n2\n\x02\x00", api.OK, 0}, {"aig 1 0 0 1 1\n2\n\x02\x01", api.ErrDelta, 17}, {"aig 1 0 0 1 1\n2\n\x01\x00", api.OK, 0},
		// two bytes, where one would be enough as well
		{"aig 1 0 0 1 1\n2\n\x82\x00\x80\x00", api.OK, 0}, {"aig 1 0 0 1 1\n2\n\x80\x00\x00", api.ErrDelta, 16}, {"aig 1 0 0 1 1\n2\n\x81\x00\x82\x00", api.ErrDelta, 18}, {"aig 1 0 0 1 1\n2\n\xff\x7f\x00", api.ErrDelta, 16}, {"aig 1 0 0 1 1\n2\n\x82\x01\x00", api.ErrDelta, 16},
		{"aig 1 0 0 1 1\n2\n\xff", api.ErrSyntax, 17}, {"aig 1 0 0 1 1\n2\n\xff\xff", api.ErrSyntax, 17}, {"aig 1 0 0 1 1\n2\n\x01\x80", api.ErrSyntax, 18}, {"aig 1 0 0 1 1\n2\n\x01\xff\x80", api.ErrSyntax, 18}, {"aig 1 0 0 1 1\n2\n\x80\x80\x00", api.ErrSyntax, 17},
		// nothing stands between the gates and what is behind them
		{"aig 1 0 0 1 1\n2\n\x01\x01\n", api.ErrSyntax, 18}, {"aig 1 0 0 1 1\n2\n\x01\x01c\n", api.OK, 0}, {"aig 1 0 0 1 1\n2\n\x01\x01o0 x\n", api.OK, 0}, {"aig 2 0 0 1 2\n2\n\x01\x01\x05\x00", api.ErrDelta, 18},
	})
}

func TestReadSymbols(t *testing.T) {
	small := "aag 0 0 0 1 0\n0\n"                         // 16 bytes
	large := "aag 4 2 2 2 0 1\n2\n4\n6 0\n8 0\n0\n0\n0\n" // 34 bytes
	checkFaults(t, []faulty{
		{large + "i0 a\ni1 b\nl0 c\nl1 d\no0 e\no1 f\nb0 g\n", api.OK, 0}, {large + "b0 g\no0 e\no0 e\n", api.OK, 0}, {large, api.OK, 0},
		{large + "i2 a\n", api.ErrSyntax, 35}, {large + "l2 a\n", api.ErrSyntax, 35}, {large + "o2 a\n", api.ErrSyntax, 35}, {large + "b1 a\n", api.ErrSyntax, 35}, {large + "i10 a\n", api.ErrSyntax, 35}, {large + "i9999", api.ErrSyntax, 35},
		{small + "i0 a\n", api.ErrSyntax, 17}, {small + "l0 a\n", api.ErrSyntax, 17}, {small + "b0 a\n", api.ErrSyntax, 17}, {small + "o1", api.ErrSyntax, 17},
		{small + "o", api.ErrSyntax, 17}, {small + "o x\n", api.ErrSyntax, 17}, {small + "ox\n", api.ErrSyntax, 17}, {small + "o00 x\n", api.ErrSyntax, 18}, {small + "o12345 x\n", api.ErrSyntax, 21}, {small + "o0", api.ErrSyntax, 18}, {small + "o0x\n", api.ErrSyntax, 18}, {small + "o0\n", api.ErrSyntax, 18},
		{small + "o0 ", api.ErrSyntax, 19}, {small + "o0 \n", api.ErrSyntax, 19}, {small + "o0 x", api.ErrSyntax, 20}, {small + "o0  \n", api.OK, 0}, {small + "o0 x y \x00\xff\r\n", api.OK, 0},
		{small + "\n", api.ErrSyntax, 16}, {small + "a", api.ErrSyntax, 16}, {small + "j0 x\n", api.ErrSyntax, 16}, {small + "o0 x\n\n", api.ErrSyntax, 21}, {small + "o0 x\n0\n", api.ErrSyntax, 21},
		{small + "c", api.ErrSyntax, 17}, {small + "c0 x\n", api.ErrSyntax, 17}, {small + "c\r\n", api.ErrSyntax, 17}, {small + "c\n", api.OK, 0}, {small + "c\nq9 \n\n\x80", api.OK, 0}, {small + "o0 x\nc", api.ErrSyntax, 22},
	})
}

// What is found only when all is read, and that it comes behind all else.
func TestReadUndefined(t *testing.T) {
	checkFaults(t, []faulty{
		{"aag 3 1 1 1 0\n2\n4 6\n7\n", api.ErrUndef, 18}, {"aag 3 1 1 1 0\n2\n4 4\n7\n", api.ErrUndef, 20}, {"aag 3 1 1 1 0 1\n2\n4 4\n2\n7\n", api.ErrUndef, 24}, {"aag 3 1 1 1 0 1\n2\n4 4\n6\n7\n", api.ErrUndef, 22},
		{"aag 3 1 0 1 1\n2\n6\n4 2 6\n", api.ErrUndef, 16}, {"aag 3 1 0 1 1\n2\n4\n4 6 6\n", api.ErrUndef, 20}, {"aag 3 1 0 1 1\n2\n4\n4 2 7\n", api.ErrUndef, 22},
		{"aag 4 0 0 1 2\n0\n2 0 0\n4 1 8\n", api.ErrUndef, 26},
		{"aag 2 1 0 1 0\n2\n4\nx", api.ErrSyntax, 18}, {"aag 2 1 0 1 0\n2\n4\ni0 x\nc\n", api.ErrUndef, 16}, {"aag 4 1 1 1 0\n2\n4 6\n9\no3", api.ErrSyntax, 23},
		{"aag 3 0 0 1 2\n0\n2 2 2\n4 6 0\n", api.ErrUndef, 24},
		{"aag 2 0 1 1 1\n2 4\n4\n4 2 2\n", api.OK, 0}, {"aag 1 0 1 1 0\n2 1\n0\n", api.OK, 0},
	})
}

func TestReadCycle(t *testing.T) {
	checkFaults(t, []faulty{
		{"aag 1 0 0 1 1\n0\n2 2 0\n", api.ErrCycle, 16}, {"aag 1 0 0 1 1\n0\n2 0 2\n", api.ErrCycle, 16}, {"aag 1 0 0 1 1\n0\n2 0 3\n", api.ErrCycle, 16},
		{"aag 3 0 0 1 3\n0\n2 4 4\n4 6 6\n6 0 0\n", api.OK, 0}, {"aag 3 0 0 1 3\n0\n6 0 0\n2 4 4\n4 2 2\n", api.ErrCycle, 22},
		// the first gate is on no cycle, but hangs on one
		{"aag 3 0 0 1 3\n0\n2 4 0\n4 6 0\n6 4 0\n", api.ErrCycle, 16},
		// the first two can be laid, though they stand around one that cannot
		{"aag 3 0 0 1 3\n0\n2 6 6\n4 5 0\n6 1 1\n", api.ErrCycle, 22},
		{"aag 1 0 0 1 1\n0\n2 2 0\nx", api.ErrSyntax, 22},
		// a latch breaks no fault and makes none
		{"aag 2 0 1 1 1\n2 4\n0\n4 2 3\n", api.OK, 0},
	})
}

func TestBadIsTheProperty(t *testing.T) {
	for _, c := range []struct {
		file string
		bad  bool
	}{
		{"aag 0 0 0 1 0\n1\n", true}, {"aag 0 0 0 1 0\n0\n", false},
		{"aag 0 0 0 1 0 0\n1\n", true},
		{"aag 0 0 0 1 0 1\n0\n1\n", true}, {"aag 0 0 0 1 0 1\n1\n0\n", false},
		{"aag 0 0 0 0 0 1\n1\n", true}, {"aag 0 0 0 4 0 1\n1\n1\n1\n1\n0\n", false},
		{"aig 0 0 0 2 0 1\n0\n0\n1\n", true}, {"aig 0 0 0 1 0\n1\n", true},
	} {
		x, f := checker.Read(c.file)
		if f.E != api.OK {
			t.Errorf("P3: Read(%q): %+v", c.file, f)
			continue
		}
		if _, bad := x.Step(0, 0); bad != c.bad {
			t.Errorf("P4: of %q the bad is %v, want %v", c.file, bad, c.bad)
		}
	}
}

// Files near to good ones: cut off, and with each byte changed, left out, or one more.
func TestReadNearby(t *testing.T) {
	good := []string{
		"aag 7 2 2 1 3 1\n2\n4\n6 12 1\n8 14 8\n10\n15\n10 2 4\n12 11 6\n14 13 9\ni0 x\nl1 y z\nc\nfree",
		"aig 7 2 2 1 3 1\n12 1\n14 8\n10\n15\n\x06\x02\x81\x00\x05\x01\x04i0 x\nb0 y\nc\nfree",
	}
	for _, g := range good {
		checkFaults(t, []faulty{{g, api.OK, 0}})
		for p := 0; p <= len(g); p++ {
			checkNearby(t, g[:p])
			for b := 0; b < 256; b++ {
				s := string([]byte{byte(b)})
				checkNearby(t, g[:p]+s+g[p:])
				if p < len(g) {
					checkNearby(t, g[:p]+s+g[p+1:])
				}
			}
			if p < len(g) {
				checkNearby(t, g[:p]+g[p+1:])
			}
		}
	}
}

// checkNearby: what holds for every file, whatever its fault.
func checkNearby(t *testing.T, file string) {
	t.Helper()
	c, f := checker.Read(file)
	_, again := checker.Read(file)
	if f != again {
		t.Fatalf("P2: Read(%q) = %+v, then %+v", file, f, again)
	}
	if f.E < api.OK || f.E > api.ErrCycle || f.Pos < 0 || f.Pos > len(file) || (c == nil) != (f.E != api.OK) || (f.E == api.OK && f.Pos != 0) {
		t.Fatalf("P3: Read(%q) = %v, %+v", file, c != nil, f)
	}
	if c != nil {
		checkReprinted(t, c)
		return
	}
	// What is behind the byte that a file cannot go on with does not matter; before it the file may still go on.
	if f.E == api.ErrSyntax && f.Pos < len(file) {
		if _, cut := checker.Read(file[:f.Pos+1] + "zz"); cut != f && !isDigitAt(file, f.Pos) {
			t.Fatalf("P3: Read(%q) = %+v, but cut off behind that byte %+v", file, f, cut)
		}
	}
}

func isDigitAt(file string, pos int) bool { return file[pos] >= '0' && file[pos] <= '9' }
