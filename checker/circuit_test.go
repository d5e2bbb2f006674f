package checker_test

import (
	"fmt"
	"math"
	"testing"

	"circheck/api"
	"circheck/checker"
)

func mustRead(t *testing.T, file string) *checker.Circuit {
	t.Helper()
	c, f := checker.Read(file)
	if c == nil || f != (api.Fault{}) {
		t.Fatalf("P3: Read(%q): %+v", file, f)
	}
	return c
}

func TestSizes(t *testing.T) {
	for _, c := range []struct {
		file                   string
		in, latch, gates, vars int
	}{
		{"aag 0 0 0 1 0\n0\n", 0, 0, 0, 1},
		{"aag 80 0 0 1 0\n0\n", 0, 0, 0, 1},
		{"aag 9 2 1 1 1\n2\n6\n8 2\n0\n18 2 6\n", 2, 1, 1, 5},
		{"aig 7 1 2 0 4 1\n0\n0\n0\n\x01\x00\x01\x00\x01\x00\x01\x00", 1, 2, 4, 8},
	} {
		x := mustRead(t, c.file)
		if x.NIn() != c.in || x.NLatch() != c.latch || x.NAnd() != c.gates || x.NVars() != c.vars {
			t.Errorf("P6: of %q the sizes are %d %d %d %d", c.file, x.NIn(), x.NLatch(), x.NAnd(), x.NVars())
		}
	}
}

func TestLargest(t *testing.T) {
	c := mustRead(t, largest().plain())
	if c.NIn() != api.MaxIn || c.NLatch() != api.MaxLatch || c.NAnd() != api.MaxAnd || c.NVars() != 71 {
		t.Errorf("P6: the sizes are %d %d %d %d", c.NIn(), c.NLatch(), c.NAnd(), c.NVars())
	}
	checkReprinted(t, c)
}

func TestTurningLatch(t *testing.T) {
	c := mustRead(t, "aag 1 0 1 1 0\n2 3\n2\n")
	if z, bad := c.Step(0, 0); z != 1 || bad {
		t.Errorf("P6: Step(0, 0) = %d, %v", z, bad)
	}
	if z, bad := c.Step(1, 0); z != 0 || !bad {
		t.Errorf("P6: Step(1, 0) = %d, %v", z, bad)
	}
	if !c.Begins(0) || c.Begins(1) {
		t.Errorf("P6: Begins(0) = %v, Begins(1) = %v", c.Begins(0), c.Begins(1))
	}
}

// Latches change all at once; the first input goes into the first latch.
func TestShiftRegister(t *testing.T) {
	c := mustRead(t, "aag 8 2 6 0 0 1\n2\n4\n6 2\n8 6\n10 8\n12 10\n14 12\n16 14\n5\n")
	for state := 0; state < 64; state++ {
		for input := 0; input < 4; input++ {
			z, bad := c.Step(state, input)
			if want := (state<<1 | input&1) & 63; z != want || bad != (input < 2) {
				t.Errorf("P6: Step(%d, %d) = %d, %v, want %d", state, input, z, bad, want)
			}
		}
	}
}

func TestBegins(t *testing.T) {
	plain := mustRead(t, "aag 5 1 4 0 0 1\n2\n4 0\n6 0 0\n8 0 1\n10 0 10\n0\n")
	binary := mustRead(t, "aig 5 1 4 0 0 1\n0\n0 0\n0 1\n0 10\n0\n")
	for state := -40; state < 40; state++ {
		want := state&7 == 4
		if p, b := plain.Begins(state), binary.Begins(state); p != want || b != want {
			t.Errorf("P6: Begins(%d) = %v, %v, want %v", state, p, b, want)
		}
	}
	none := mustRead(t, "aag 0 0 0 1 0\n0\n")
	if !none.Begins(0) || !none.Begins(-1) {
		t.Error("P6: without latches every state is a first one")
	}
}

func TestOtherBitsDoNotMatter(t *testing.T) {
	c := mustRead(t, "aag 4 1 1 0 2 1\n2\n4 8 1\n6\n6 2 4\n8 3 4\n")
	for _, high := range []int{2, 1 << 40, -2, math.MinInt} {
		for state := 0; state < 2; state++ {
			for input := 0; input < 2; input++ {
				z, bad := c.Step(state, input)
				hz, hbad := c.Step(state|high, input|high)
				if hz != z || hbad != bad {
					t.Errorf("P6: Step(%d, %d) = %d, %v; with other bits %d, %v", state, input, z, bad, hz, hbad)
				}
			}
			if c.Begins(state|high) != (state == 1) {
				t.Errorf("P6: Begins(%d) = %v", state|high, state != 1)
			}
		}
	}
}

// Of every file, whatever its variables are called and its lines' order is, steps are those of the file.
func TestStepsOfManyFiles(t *testing.T) {
	for seed := 1; seed <= 400; seed++ {
		n := scattered(seed)
		c := mustRead(t, n.plain())
		for state := 0; state < 1<<len(n.latches); state++ {
			for input := 0; input < 1<<len(n.inputs); input++ {
				z, bad := c.Step(state, input)
				wantZ, wantBad := n.step(state, input)
				if z != wantZ || bad != wantBad {
					t.Fatalf("P6: of %q Step(%d, %d) = %d, %v, want %d, %v", n.plain(), state, input, z, bad, wantZ, wantBad)
				}
			}
			if got, want := c.Begins(state), n.begins(state); got != want {
				t.Fatalf("P6: of %q Begins(%d) = %v", n.plain(), state, got)
			}
		}
	}
}

func TestCallsDoNotPanic(t *testing.T) {
	blank := &checker.Circuit{}
	for _, c := range []*checker.Circuit{nil, blank, mustRead(t, largest().plain())} {
		for _, n := range []int{math.MinInt, -1, 0, 1, math.MaxInt} {
			c.Step(n, n)
			c.Begins(n)
		}
		everything(c)
	}
}

// Beside a fault there is no circuit, and nothing is told of it.
func TestNoCircuit(t *testing.T) {
	c, f := checker.Read("aag 1")
	if c != nil || f.E != api.ErrSyntax {
		t.Fatalf("P3: %v, %+v", c != nil, f)
	}
	if c.NIn() != 0 || c.NLatch() != 0 || c.NAnd() != 0 || c.NVars() != 0 || c.Ascii() != "" || c.Binary() != "" || c.Begins(0) {
		t.Error("P1: a circuit that is none has answers")
	}
	if z, bad := c.Step(1, 1); z != 0 || bad {
		t.Errorf("P1: a circuit that is none steps to %d, %v", z, bad)
	}
}

// What one circuit is asked, or another file that is read, changes no answer.
func TestAnswersAreLasting(t *testing.T) {
	file := "aag 7 2 2 1 3 1\n2\n4\n6 12 1\n8 14 8\n10\n15\n10 2 4\n12 11 6\n14 13 9\n"
	c := mustRead(t, file)
	before := everything(c)
	other := mustRead(t, "aag 1 0 1 1 0\n2 3\n2\n")
	other.Step(1, 1)
	if _, f := checker.Read("aag 1"); f.E != api.ErrSyntax {
		t.Errorf("P3: %+v", f)
	}
	if after := everything(c); after != before {
		t.Errorf("P2: %s, then %s", before, after)
	}
	if again := everything(mustRead(t, file)); again != before {
		t.Errorf("P2: %s, read again %s", before, again)
	}
}

func everything(c *checker.Circuit) string {
	s := fmt.Sprintf("%q %q %d %d %d %d", c.Ascii(), c.Binary(), c.NIn(), c.NLatch(), c.NAnd(), c.NVars())
	for state := 0; state < 1<<c.NLatch(); state++ {
		for input := 0; input < 1<<c.NIn(); input++ {
			z, bad := c.Step(state, input)
			s += fmt.Sprint(" ", z, bad)
		}
		s += fmt.Sprint(" ", c.Begins(state))
	}
	return s
}
