package checker

import (
	"strconv"

	"circheck/api"
)

// Ascii, Binary print the circuit (P7).
func (c *Circuit) Ascii() string {
	if c == nil {
		return ""
	}
	text := "aag " + c.counts()
	for j := 0; j < c.inputs; j++ {
		text += line([]int{2 * (1 + j)})
	}
	for j := 0; j < len(c.latches); j++ {
		own := c.latchLiteral(j)
		text += strconv.Itoa(own)
		text += " " + c.latches[j].tail(own)
	}
	text += line([]int{c.bad})
	for k := 0; k < len(c.gates); k++ {
		own := c.gateLiteral(k)
		text += line([]int{own, c.gates[k].greater, c.gates[k].lesser})
	}
	return text
}

func (c *Circuit) Binary() string {
	if c == nil {
		return ""
	}
	text := "aig " + c.counts()
	for j := 0; j < len(c.latches); j++ {
		own := c.latchLiteral(j)
		text += c.latches[j].tail(own)
	}
	text += line([]int{c.bad})
	for k := 0; k < len(c.gates); k++ {
		own := c.gateLiteral(k)
		g := c.gates[k]
		text += differenceBytes(own - g.greater)
		text += differenceBytes(g.greater - g.lesser)
	}
	return text
}

// counts is the header behind its first word.
func (c *Circuit) counts() string {
	top := c.inputs + len(c.latches) + len(c.gates)
	return line([]int{top, c.inputs, len(c.latches), 0, len(c.gates), 1})
}

func (c *Circuit) latchLiteral(j int) int { return 2 * (1 + c.inputs + j) }

func (c *Circuit) gateLiteral(k int) int { return 2 * (1 + c.inputs + len(c.latches) + k) }

// tail is the part of a latch's line that both forms have.
func (l latch) tail(own int) string {
	numbers := []int{l.next}
	switch l.reset {
	case api.Reset1:
		numbers = append(numbers, 1)
	case api.ResetAny:
		numbers = append(numbers, own)
	}
	return line(numbers)
}

// line is numbers with blanks between, and a line end.
func line(numbers []int) string {
	text := ""
	for k := 0; k < len(numbers); k++ {
		if k > 0 {
			text += " "
		}
		text += strconv.Itoa(numbers[k])
	}
	return text + "\n"
}

// differenceBytes is a difference in the binary form: one byte where that is enough. Two always are: no circuit has so great a literal.
func differenceBytes(d int) string {
	if d < 128 {
		return string([]byte{byte(d)})
	}
	return string([]byte{byte(d%128 + 128), byte(d / 128)})
}
