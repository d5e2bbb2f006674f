package checker_test

import (
	"strconv"

	"circheck/api"
)

// net is a circuit for tests, with literals of its own choice.
type net struct {
	top     int
	inputs  []int
	latches [][3]int // literal, what it becomes, what it begins as
	gates   [][3]int // literal, operands
	bad     int
}

func line(numbers ...int) string {
	text := ""
	for k, n := range numbers {
		if k > 0 {
			text += " "
		}
		text += strconv.Itoa(n)
	}
	return text + "\n"
}

// plain is the net as a file.
func (n *net) plain() string {
	text := "aag " + line(n.top, len(n.inputs), len(n.latches), 0, len(n.gates), 1)
	for _, l := range n.inputs {
		text += line(l)
	}
	for _, l := range n.latches {
		text += line(l[:]...)
	}
	text += line(n.bad)
	for _, g := range n.gates {
		text += line(g[:]...)
	}
	return text
}

// ordered is the net as a file in the order that P5 asks for.
func (n *net) ordered() string {
	place := map[int]int{0: 0}
	to := func(l int) int { return 2*place[l/2] + l%2 }
	for _, l := range n.inputs {
		place[l/2] = len(place)
	}
	for _, l := range n.latches {
		place[l[0]/2] = len(place)
	}
	gates := ""
	waiting := append([][3]int(nil), n.gates...)
	for len(waiting) > 0 {
		k := 0
		for ; k < len(waiting)-1; k++ {
			_, a := place[waiting[k][1]/2]
			_, b := place[waiting[k][2]/2]
			if a && b {
				break
			}
		}
		g := waiting[k]
		waiting = append(waiting[:k], waiting[k+1:]...)
		place[g[0]/2] = len(place)
		gates += line(to(g[0]), max(to(g[1]), to(g[2])), min(to(g[1]), to(g[2])))
	}
	text := "aag " + line(len(place)-1, len(n.inputs), len(n.latches), 0, len(n.gates), 1)
	for _, l := range n.inputs {
		text += line(to(l))
	}
	for _, l := range n.latches {
		switch l[2] {
		case 0:
			text += line(to(l[0]), to(l[1]))
		case 1:
			text += line(to(l[0]), to(l[1]), 1)
		default:
			text += line(to(l[0]), to(l[1]), to(l[2]))
		}
	}
	return text + line(to(n.bad)) + gates
}

// step tells the next state and the bad, from the net's own lines.
func (n *net) step(state, input int) (int, bool) {
	known := map[int]bool{0: false}
	for j, l := range n.inputs {
		known[l/2] = input>>j&1 == 1
	}
	for j, l := range n.latches {
		known[l[0]/2] = state>>j&1 == 1
	}
	var value func(l int) bool
	value = func(l int) bool {
		if _, ok := known[l/2]; !ok {
			for _, g := range n.gates {
				if g[0]/2 == l/2 {
					known[l/2] = value(g[1]) && value(g[2])
				}
			}
		}
		return known[l/2] != (l%2 == 1)
	}
	next := 0
	for j, l := range n.latches {
		if value(l[1]) {
			next += 1 << j
		}
	}
	return next, value(n.bad)
}

func (n *net) begins(state int) bool {
	for j, l := range n.latches {
		if l[2] < 2 && state>>j&1 != l[2] {
			return false
		}
	}
	return true
}

// dice are numbers that look like chance and are the same each time.
type dice struct{ state uint64 }

func (d *dice) below(n int) int {
	d.state = d.state*6364136223846793005 + 1442695040888963407
	return int(d.state>>33) % n
}

func (d *dice) shuffle(length int, swap func(i, j int)) {
	for k := length - 1; k > 0; k-- {
		swap(k, d.below(k+1))
	}
}

// scattered is a net whose variables have any numbers and whose gates stand in any order.
func scattered(seed int) *net {
	d := &dice{state: uint64(seed)}
	in, latches, gates := d.below(api.MaxIn+1), d.below(5), d.below(24)
	n := &net{top: in + latches + gates + d.below(9)}
	var free []int
	for v := 1; v <= n.top; v++ {
		free = append(free, 2*v)
	}
	d.shuffle(len(free), func(i, j int) { free[i], free[j] = free[j], free[i] })
	ready := []int{0}
	take := func() int {
		l := free[0]
		free = free[1:]
		ready = append(ready, l)
		return l
	}
	any := func() int { return ready[d.below(len(ready))] + d.below(2) }
	for len(n.inputs) < in {
		n.inputs = append(n.inputs, take())
	}
	for len(n.latches) < latches {
		l := take()
		n.latches = append(n.latches, [3]int{l, 0, []int{0, 1, l}[d.below(3)]})
	}
	for len(n.gates) < gates {
		a, b := any(), any()
		n.gates = append(n.gates, [3]int{take(), a, b})
	}
	for j := range n.latches {
		n.latches[j][1] = any()
	}
	n.bad = any()
	d.shuffle(len(n.gates), func(i, j int) { n.gates[i], n.gates[j] = n.gates[j], n.gates[i] })
	return n
}

// largest is a net of as much of everything as may be, which still fits in a file.
func largest() *net {
	n := &net{top: api.MaxIndex}
	for l := 2; l <= 140; l += 2 {
		switch {
		case l <= 8:
			n.inputs = append(n.inputs, l)
		case l <= 20:
			n.latches = append(n.latches, [3]int{l, l + 120, l})
		default:
			n.gates = append(n.gates, [3]int{l, l - 2, l - 19})
		}
	}
	n.bad = 140
	return n
}

// blank is a net of so many inputs and latches, which begin as 0 and become 0.
func blank(inputs, latches int) *net {
	n := &net{top: inputs + latches}
	for l := 2; l <= 2*n.top; l += 2 {
		if l <= 2*inputs {
			n.inputs = append(n.inputs, l)
		} else {
			n.latches = append(n.latches, [3]int{l, 0, 0})
		}
	}
	return n
}

func (n *net) and(a, b int) int {
	n.top++
	n.gates = append(n.gates, [3]int{2 * n.top, a, b})
	return 2 * n.top
}

func (n *net) xor(a, b int) int {
	both := n.and(a, b)
	none := n.and(a^1, b^1)
	return n.and(both^1, none^1)
}

// is: the latches from the first one on spell the number.
func (n *net) is(first, number int) int {
	all := 1
	for j := first; j < len(n.latches); j++ {
		all = n.and(all, n.latches[j][0]^1^number>>j&1)
	}
	return all
}

// countFrom lets the latches from one on count up, if the literal is true.
func (n *net) countFrom(first, carry int) {
	for j := first; j < len(n.latches); j++ {
		own := n.latches[j][0]
		n.latches[j][1] = n.xor(own, carry)
		carry = n.and(own, carry)
	}
}

// winding is a net of six latches that comes to many states, one behind the other: a row of latches whose first one becomes something of the others.
func winding(seed int) *net {
	d := &dice{state: uint64(seed)}
	n := blank(d.below(3), api.MaxLatch)
	any := func() int { return 2*d.below(n.top+1) + d.below(2) }
	for j := 1; j < len(n.latches); j++ {
		n.latches[j][1] = n.latches[j-1][0] ^ d.below(2)
	}
	back := n.latches[len(n.latches)-1][0]
	for k := d.below(4); k > 0; k-- {
		if d.below(2) == 0 {
			back = n.xor(back, any())
		} else {
			back = n.and(back, any()) ^ d.below(2)
		}
	}
	n.latches[0][1] = n.xor(back, n.latches[d.below(len(n.latches)-1)][0])
	for j := range n.latches {
		own := n.latches[j][0]
		n.latches[j][2] = []int{0, 0, 0, 0, 1, 1, 1, own}[d.below(8)]
	}
	n.bad = n.is(0, d.below(64))
	return n
}
