package checker_test

import (
	"strings"
	"testing"

	"circheck/api"
	"circheck/checker"
)

// printed is a file with what is printed of it.
type printed struct{ file, ascii, binary string }

func checkPrinted(t *testing.T, promise string, files []printed) {
	t.Helper()
	for _, p := range files {
		c := mustRead(t, p.file)
		if a := c.Ascii(); a != p.ascii {
			t.Errorf("%s: of %q Ascii() = %q, want %q", promise, p.file, a, p.ascii)
		}
		if b := c.Binary(); b != p.binary {
			t.Errorf("%s: of %q Binary() = %q, want %q", promise, p.file, b, p.binary)
		}
		checkReprinted(t, c)
	}
}

// checkReprinted: what is printed is a file, and printed again it is the same.
func checkReprinted(t *testing.T, c *checker.Circuit) {
	t.Helper()
	ascii, binary := c.Ascii(), c.Binary()
	for _, file := range []string{ascii, binary} {
		again, f := checker.Read(file)
		if again == nil || f.E != api.OK || again.Ascii() != ascii || again.Binary() != binary {
			t.Fatalf("P7: what is printed, %q, is read as another circuit: %+v", file, f)
		}
	}
}

func TestPrintedForms(t *testing.T) {
	checkPrinted(t, "P7", []printed{
		{"aag 1 0 1 1 0\n2 3\n2\n", "aag 1 0 1 0 0 1\n2 3\n2\n", "aig 1 0 1 0 0 1\n3\n2\n"},
		{"aag 3 2 0 0 1 1\n2\n4\n6\n6 2 4\n", "aag 3 2 0 0 1 1\n2\n4\n6\n6 4 2\n", "aig 3 2 0 0 1 1\n6\n\x02\x02"},
		// nothing, but for the property
		{"aag 80 0 0 1 0\n1\n", "aag 0 0 0 0 0 1\n1\n", "aig 0 0 0 0 0 1\n1\n"},
		// outputs, symbols and what is behind them are left out
		{"aag 1 1 0 2 0 1 0 0 0\n2\n2\n1\n3\ni0 in\nb0 bad\nc\nx\n", "aag 1 1 0 0 0 1\n2\n3\n", "aig 1 1 0 0 0 1\n3\n"},
		// what a latch begins as
		{"aag 4 0 4 1 0\n2 0\n4 1 0\n6 2 1\n8 3 8\n9\n", "aag 4 0 4 0 0 1\n2 0\n4 1\n6 2 1\n8 3 8\n9\n", "aig 4 0 4 0 0 1\n0\n1\n2 1\n3 8\n9\n"},
		{"aig 3 1 2 0 0 1\n2 4\n7 6\n5\n", "aag 3 1 2 0 0 1\n2\n4 2 4\n6 7 6\n5\n", "aig 3 1 2 0 0 1\n2 4\n7 6\n5\n"},
		// a latch that begins as it likes has another literal in the circuit's own order
		{"aag 9 1 2 1 0\n8\n4 8 4\n18 19 1\n5\nl1 x\n", "aag 3 1 2 0 0 1\n2\n4 2 4\n6 7 1\n5\n", "aig 3 1 2 0 0 1\n2 4\n7 1\n5\n"},
		// two bytes for a difference that one is enough for
		{"aig 1 0 0 1 1\n2\n\x81\x00\x81\x00", "aag 1 0 0 0 1 1\n2\n2 1 0\n", "aig 1 0 0 0 1 1\n2\n\x01\x01"},
	})
}

// The differences around 128: one byte up to 127, then two.
func TestPrintedDifferences(t *testing.T) {
	gates := func(first int, operands string) string {
		return "aag 70 4 6 0 60 1\n2\n4\n6\n8\n10 0\n12 0\n14 0\n16 0\n18 0\n20 0\n0\n" + constantGates(first) + operands
	}
	head := "aig 70 4 6 0 60 1\n0\n0\n0\n0\n0\n0\n0\n"
	for _, c := range []struct {
		greater, lesser int
		bytes           string
	}{
		{13, 13, "\x7f\x00"}, {12, 12, "\x80\x01\x00"}, {12, 2, "\x80\x01\x0a"}, {0, 0, "\x8c\x01\x00"}, {1, 0, "\x8b\x01\x01"},
		{139, 139, "\x01\x00"}, {139, 12, "\x01\x7f"}, {139, 11, "\x01\x80\x01"}, {139, 0, "\x01\x8b\x01"}, {138, 0, "\x02\x8a\x01"}, {138, 138, "\x02\x00"},
	} {
		last := line(140, c.greater, c.lesser)
		x := mustRead(t, gates(140, last))
		want := head + constantBytes() + c.bytes
		if b := x.Binary(); b != want {
			t.Errorf("P7: of a gate %q Binary() ends %q, want %q", last, b[len(b)-4:], c.bytes)
		}
		checkReprinted(t, x)
	}
}

// constantGates: gates of two false operands, up to the literal that is not among them.
func constantGates(end int) string {
	text := ""
	for l := 22; l < end; l += 2 {
		text += line(l, 0, 0)
	}
	return text
}

func constantBytes() string {
	var b []byte
	for l := 22; l < 140; l += 2 {
		if l < 128 {
			b = append(b, byte(l), 0)
		} else {
			b = append(b, byte(l), 1, 0)
		}
	}
	return string(b)
}

func TestOwnOrder(t *testing.T) {
	checkPrinted(t, "P5", []printed{
		// inputs and latches as they stand in the file
		{"aag 6 2 2 0 0 1\n12\n2\n8 12\n4 2\n5\n", "aag 4 2 2 0 0 1\n2\n4\n6 2\n8 4\n9\n", "aig 4 2 2 0 0 1\n2\n4\n9\n"},
		// gates from the last to the first
		{"aag 3 0 0 1 3\n3\n2 4 5\n4 6 7\n6 1 1\n", "aag 3 0 0 0 3 1\n7\n2 1 1\n4 3 2\n6 5 4\n", "aig 3 0 0 0 3 1\n7\n\x01\x00\x01\x01\x01\x01"},
		// each time from the file's start: what a gate sets free ahead of it comes before what stands behind it
		{"aag 5 1 0 1 4\n2\n10\n4 6 6\n6 2 2\n8 2 3\n10 4 8\n", "aag 5 1 0 0 4 1\n2\n10\n4 2 2\n6 4 4\n8 3 2\n10 8 6\n", "aig 5 1 0 0 4 1\n10\n\x02\x00\x02\x00\x05\x01\x02\x02"},
		// of two that are ready the file's first, not that of the lesser literal
		{"aag 3 1 0 1 2\n2\n4\n6 2 2\n4 3 3\n", "aag 3 1 0 0 2 1\n2\n6\n4 2 2\n6 3 3\n", "aig 3 1 0 0 2 1\n6\n\x02\x00\x03\x00"},
		// the greater operand of the circuit's own order, not of the file's
		{"aag 3 2 0 1 1\n4\n2\n6\n6 4 2\n", "aag 3 2 0 0 1 1\n2\n4\n6\n6 4 2\n", "aig 3 2 0 0 1 1\n6\n\x02\x02"},
		{"aag 3 2 0 1 1\n4\n2\n6\n6 5 3\n", "aag 3 2 0 0 1 1\n2\n4\n6\n6 5 3\n", "aig 3 2 0 0 1 1\n6\n\x01\x02"},
		{"aag 2 1 0 1 1\n2\n4\n4 2 3\n", "aag 2 1 0 0 1 1\n2\n4\n4 3 2\n", "aig 2 1 0 0 1 1\n4\n\x01\x01"},
	})
}

// Of many files what is printed is what the document's rule says, laid by other means.
func TestPrintedOfManyFiles(t *testing.T) {
	for seed := 1; seed <= 2000; seed++ {
		n := scattered(seed)
		c := mustRead(t, n.plain())
		if a, want := c.Ascii(), n.ordered(); a != want {
			t.Fatalf("P5: of %q Ascii() = %q, want %q", n.plain(), a, want)
		}
		if !strings.HasPrefix(c.Binary(), "aig ") {
			t.Fatalf("P7: of %q Binary() = %q", n.plain(), c.Binary())
		}
		checkReprinted(t, c)
	}
}
