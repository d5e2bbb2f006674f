package checker

import (
	"strconv"

	"circheck/api"
)

// result is what a run tells of its verdict (P13 to P16).
func (r *run) result(verdict api.Verdict) *api.Result {
	result := &api.Result{V: verdict, Spent: r.spent}
	switch verdict {
	case api.Safe:
		result.Clauses = r.kept
		result.Text = r.safeText()
	case api.Unsafe:
		result.Init = r.firstState()
		result.Inputs = r.inputs()
		result.Text = r.unsafeText()
	case api.Unknown:
		result.Text = "2\nb0\n.\n"
	}
	return result
}

// firstState is the state that the way begins in.
func (r *run) firstState() int {
	if len(r.way) == 0 {
		return 0
	}
	return r.way[len(r.way)-1].state
}

// inputs are those of the way, the first ones first.
func (r *run) inputs() []int {
	inputs := []int{}
	for i := len(r.way) - 1; i >= 0; i-- {
		inputs = append(inputs, r.way[i].input)
	}
	return inputs
}

func (r *run) unsafeText() string {
	state := r.firstState()
	inputs := r.inputs()
	text := "1\nb0\n" + bitLine(state, len(r.circuit.latches))
	for i := 0; i < len(inputs); i++ {
		text += bitLine(inputs[i], r.circuit.inputs)
	}
	return text + ".\n"
}

func (r *run) safeText() string {
	text := "0\nb0\n"
	for i := 0; i < len(r.kept); i++ {
		text += clauseLine(r.kept[i])
	}
	return text + ".\n"
}

// bitLine is so many bits of a number, the lowest first, and a line end.
func bitLine(number int, count int) string {
	text := ""
	for j := 0; j < count; j++ {
		text += strconv.Itoa(number >> j & 1)
	}
	return text + "\n"
}

// clauseLine is a clause over latches, and a line end.
func clauseLine(clause []int) string {
	text := ""
	for i := 0; i < len(clause); i++ {
		if i > 0 {
			text += " "
		}
		if clause[i]&1 == 1 {
			text += "-"
		}
		text += "l" + strconv.Itoa(clause[i]>>1)
	}
	return text + "\n"
}
