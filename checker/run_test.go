package checker_test

import (
	"fmt"
	"math"
	"reflect"
	"strconv"
	"strings"
	"testing"

	"circheck/api"
	"circheck/checker"
)

// atlas is all that a net can do: each state's next state and its bad, input by input.
type atlas struct {
	n    *net
	next [][]int
	bad  [][]bool
}

func newAtlas(n *net) *atlas {
	a := &atlas{n: n}
	for state := 0; state < 1<<len(n.latches); state++ {
		var next []int
		var bad []bool
		for input := 0; input < 1<<len(n.inputs); input++ {
			z, b := n.step(state, input)
			next, bad = append(next, z), append(bad, b)
		}
		a.next, a.bad = append(a.next, next), append(a.bad, bad)
	}
	return a
}

// canBeBad tells whether the bad can be, by going to all states that can be reached.
func (a *atlas) canBeBad() bool {
	met := make([]bool, len(a.next))
	var open []int
	for state := range a.next {
		if a.n.begins(state) {
			met[state] = true
			open = append(open, state)
		}
	}
	for len(open) > 0 {
		state := open[0]
		open = open[1:]
		for input, z := range a.next[state] {
			if a.bad[state][input] {
				return true
			}
			if !met[z] {
				met[z] = true
				open = append(open, z)
			}
		}
	}
	return false
}

// checkWay: P13, and what P16 says of it.
func (a *atlas) checkWay(t *testing.T, r *api.Result) {
	t.Helper()
	if r.Init < 0 || r.Init >= len(a.next) || !a.n.begins(r.Init) || len(r.Inputs) == 0 || len(r.Clauses) > 0 {
		t.Fatalf("P13: of %q: %+v", a.n.plain(), r)
	}
	state, bad := r.Init, false
	text := "1\nb0\n" + bits(r.Init, len(a.n.latches))
	for _, input := range r.Inputs {
		if input < 0 || input >= 1<<len(a.n.inputs) {
			t.Fatalf("P13: of %q: an input %d", a.n.plain(), input)
		}
		state, bad = a.next[state][input], a.bad[state][input]
		text += bits(input, len(a.n.inputs))
	}
	if !bad {
		t.Fatalf("P13: of %q: the way does not lead to the bad: %+v", a.n.plain(), r)
	}
	if text += ".\n"; r.Text != text {
		t.Fatalf("P16: of %q: %+v, want %q", a.n.plain(), r, text)
	}
}

func bits(number, count int) string {
	text := ""
	for j := 0; j < count; j++ {
		text += strconv.Itoa(number >> j & 1)
	}
	return text + "\n"
}

// checkClauses: P14, and what P16 says of it.
func (a *atlas) checkClauses(t *testing.T, r *api.Result) {
	t.Helper()
	if r.Init != 0 || len(r.Inputs) > 0 {
		t.Fatalf("P14: of %q: %+v", a.n.plain(), r)
	}
	text := "0\nb0\n"
	for _, clause := range r.Clauses {
		text += a.clauseText(t, clause)
	}
	if text += ".\n"; r.Text != text {
		t.Fatalf("P16: of %q: %+v, want %q", a.n.plain(), r, text)
	}
	for state := range a.next {
		inside := allHold(r.Clauses, state)
		if a.n.begins(state) && !inside {
			t.Fatalf("P14: of %q: the first state %d breaks %v", a.n.plain(), state, r.Clauses)
		}
		for input, z := range a.next[state] {
			if inside && (a.bad[state][input] || !allHold(r.Clauses, z)) {
				t.Fatalf("P14: of %q: %v in state %d, input %d: bad %v, then %d", a.n.plain(), r.Clauses, state, input, a.bad[state][input], z)
			}
		}
	}
}

func (a *atlas) clauseText(t *testing.T, clause []int) string {
	t.Helper()
	var words []string
	for k, l := range clause {
		if l < 0 || l >= 2*len(a.n.latches) || (k > 0 && l/2 <= clause[k-1]/2) {
			t.Fatalf("P14: of %q: a clause %v", a.n.plain(), clause)
		}
		words = append(words, []string{"l", "-l"}[l%2]+strconv.Itoa(l/2))
	}
	return strings.Join(words, " ") + "\n"
}

func allHold(clauses [][]int, state int) bool {
	for _, clause := range clauses {
		one := false
		for _, l := range clause {
			one = one || state>>(l/2)&1 != l%2
		}
		if !one {
			return false
		}
	}
	return true
}

// checkRun runs a net and judges the result.
func checkRun(t *testing.T, n *net) *api.Result {
	t.Helper()
	r := checker.Run(n.plain(), api.Enough)
	if r == nil || r.F != (api.Fault{}) || r.Spent < 0 || r.Spent >= api.Enough {
		t.Fatalf("P12: Run(%q, Enough) = %+v", n.plain(), r)
	}
	a := newAtlas(n)
	want := api.Safe
	if a.canBeBad() {
		want = api.Unsafe
	}
	if r.V != want {
		t.Fatalf("P12: Run(%q, Enough) = %+v, want the verdict %d", n.plain(), r, want)
	}
	if want == api.Safe {
		a.checkClauses(t, r)
	} else {
		a.checkWay(t, r)
	}
	return r
}

// checkBudgets: with what the run costs, or more, there is the same result; with less there is none.
func checkBudgets(t *testing.T, file string, r *api.Result, budgets ...int) {
	t.Helper()
	for _, budget := range budgets {
		if budget < 0 {
			continue
		}
		q := checker.Run(file, budget)
		if q == nil {
			t.Fatalf("P15: Run(%q, %d) = nil", file, budget)
		}
		want := r
		if budget < r.Spent {
			want = &api.Result{V: api.Unknown, Spent: q.Spent, Text: "2\nb0\n.\n"}
			if q.Spent <= budget {
				t.Fatalf("P15: Run(%q, %d) has spent %d", file, budget, q.Spent)
			}
		}
		if !reflect.DeepEqual(q, want) {
			t.Fatalf("P15: Run(%q, %d) = %+v, want %+v", file, budget, q, want)
		}
	}
}

// checkForms: every file of the same circuit has the same result, with any budget.
func checkForms(t *testing.T, n *net, r *api.Result, budgets ...int) {
	t.Helper()
	c := mustRead(t, n.plain())
	for _, file := range []string{c.Ascii(), c.Binary(), c.Binary() + "c\n\x00", n.ordered() + "b0 x\nc\ny"} {
		for _, budget := range append(budgets, api.Enough) {
			q, want := checker.Run(file, budget), checker.Run(n.plain(), budget)
			if !reflect.DeepEqual(q, want) || (budget == api.Enough && !reflect.DeepEqual(q, r)) {
				t.Fatalf("P12: Run(%q, %d) = %+v, of %q %+v", file, budget, q, n.plain(), want)
			}
		}
	}
}

func TestRunExamples(t *testing.T) {
	for _, c := range []struct {
		file string
		want api.Result
	}{
		{"aag 1 0 1 1 0\n2 3\n2\n", api.Result{V: api.Unsafe, Inputs: []int{0, 0}, Text: "1\nb0\n0\n\n\n.\n"}},
		{"aag 1 0 1 1 0\n2 2\n2\n", api.Result{V: api.Safe, Clauses: [][]int{{1}}, Text: "0\nb0\n-l0\n.\n"}},
		{"aag 1 1 0 1 0\n2\n2\n", api.Result{V: api.Unsafe, Inputs: []int{1}, Text: "1\nb0\n\n1\n.\n"}},
	} {
		r := checker.Run(c.file, api.Enough)
		if r == nil {
			t.Fatalf("P12: Run(%q, Enough) = nil", c.file)
		}
		c.want.Spent = r.Spent
		if !reflect.DeepEqual(*r, c.want) {
			t.Errorf("P12: Run(%q, Enough) = %+v, want %+v", c.file, *r, c.want)
		}
	}
}

// A budget that is none comes ahead of a file that is none.
func TestRunBudgetBelow0(t *testing.T) {
	want := &api.Result{F: api.Fault{E: api.ErrInval}}
	for _, file := range []string{"", "x", "aag 1", "aag 0 0 0 1 0\n2\n", "aag 1 0 1 1 0\n2 3\n2\n", strings.Repeat("x", 2000)} {
		for _, budget := range []int{-1, -2, -api.Enough, math.MinInt} {
			if r := checker.Run(file, budget); !reflect.DeepEqual(r, want) {
				t.Errorf("P12: Run(%.20q, %d) = %+v, want ErrInval at 0", file, budget, r)
			}
		}
	}
}

// What is decided at once, without any latch or in spite of them.
func TestRunConstants(t *testing.T) {
	for _, inputs := range []int{0, 1, api.MaxIn} {
		for _, latches := range []int{0, 1, api.MaxLatch} {
			n := blank(inputs, latches)
			if r := checkRun(t, n); r.V != api.Safe {
				t.Errorf("P12: the bad is never true: %+v", r)
			}
			n.bad = 1
			if r := checkRun(t, n); r.V != api.Unsafe {
				t.Errorf("P12: the bad is always true: %+v", r)
			}
			if inputs == 0 {
				continue
			}
			last := n.inputs[inputs-1]
			n.bad = last
			if r := checkRun(t, n); r.V != api.Unsafe || r.Inputs[len(r.Inputs)-1]>>(inputs-1) != 1 {
				t.Errorf("P13: the bad is the last input: %+v", r)
			}
			n.bad = n.and(last, last^1)
			if r := checkRun(t, n); r.V != api.Safe {
				t.Errorf("P12: the bad is an input and its negation: %+v", r)
			}
		}
	}
}

// All beginnings of three latches that stay as they are, with each state as the bad one.
func TestRunBeginnings(t *testing.T) {
	for kind := 0; kind < 27; kind++ {
		for state := 0; state < 8; state++ {
			n := blank(0, 3)
			free := 0
			for j, k := 0, kind; j < 3; j, k = j+1, k/3 {
				own := n.latches[j][0]
				n.latches[j] = [3]int{own, own, []int{0, 1, own}[k%3]}
				free += k % 3 / 2
			}
			n.bad = n.is(0, state)
			if r := checkRun(t, n); r.V == api.Unsafe && r.Init != state {
				t.Errorf("P13: the latches stay as they are, in state %d: %+v", state, r)
			} else if free == 3 && r.V != api.Unsafe {
				t.Errorf("P12: the latches may begin as any state: %+v", r)
			}
		}
	}
}

// Latches that become what they do not begin as, or all the same: a clause then needs more than what the steps forbid.
func TestRunLatchesThatBecomeTheSame(t *testing.T) {
	for _, next := range []int{0, 1, 2, 3, 4, 5} {
		for begin := 0; begin < 27; begin++ {
			for state := 0; state < 8; state++ {
				n := blank(1, 3)
				for j, k := 0, begin; j < 3; j, k = j+1, k/3 {
					own := n.latches[j][0]
					n.latches[j] = [3]int{own, next, []int{0, 1, own}[k%3]}
				}
				n.bad = n.is(0, state)
				checkRun(t, n)
			}
		}
	}
}

func TestRunCounters(t *testing.T) {
	for latches := 1; latches <= api.MaxLatch; latches++ {
		top := 1<<latches - 1
		for _, to := range []int{0, 1, top / 2, top/2 + 1, top - 1, top} {
			n := blank(0, latches)
			n.countFrom(0, 1)
			n.bad = n.is(0, to)
			r := checkRun(t, n)
			if r.V != api.Unsafe || (len(r.Inputs)-1-to)%(top+1) != 0 {
				t.Errorf("P12: a counter of %d latches comes to %d: %+v", latches, to, r)
			}
			checkBudgets(t, n.plain(), r, 0, r.Spent/2, r.Spent-1, r.Spent, r.Spent+1)
		}
	}
}

// Counters that never come to a number: one that counts by twos, and one that begins anew ahead of it.
func TestRunCountersThatStayBelow(t *testing.T) {
	for latches := 2; latches <= api.MaxLatch; latches++ {
		n := blank(1, latches)
		n.latches[0][1] = n.latches[0][0]
		n.countFrom(1, n.inputs[0])
		n.bad = n.and(n.latches[0][0], n.latches[latches-1][0])
		if r := checkRun(t, n); r.V != api.Safe {
			t.Errorf("P12: a counter by twos: %+v", r)
		}
		for _, end := range []int{1, 1<<latches - 2} {
			n := blank(0, latches)
			n.countFrom(0, 1)
			stop := n.is(0, end)
			for j := range n.latches {
				n.latches[j][1] = n.and(n.latches[j][1], stop^1)
			}
			n.bad = n.is(0, end+1)
			r := checkRun(t, n)
			if r.V != api.Safe {
				t.Errorf("P12: a counter that begins anew behind %d: %+v", end, r)
			}
			checkBudgets(t, n.plain(), r, 0, r.Spent/2, r.Spent-1, r.Spent, r.Spent+1)
		}
	}
}

func TestRunLargest(t *testing.T) {
	n := largest()
	checkForms(t, n, checkRun(t, n), 0, 3)
	for j := range n.latches {
		n.latches[j][2] = j % 2
	}
	checkForms(t, n, checkRun(t, n), 0, 3)
}

// Of many files the verdict is the one that going to all states comes to; with every budget up to what the run costs.
func TestRunsOfManyFiles(t *testing.T) {
	met := map[api.Verdict]int{}
	dear := 0
	for seed := 1; seed <= 1500; seed++ {
		n := scattered(seed)
		r := checkRun(t, n)
		met[r.V]++
		dear = max(dear, r.Spent)
		for budget := 0; budget <= r.Spent+1; budget++ {
			checkBudgets(t, n.plain(), r, budget)
		}
		checkBudgets(t, n.plain(), r, api.Enough-1, api.Enough+1, math.MaxInt)
		if seed%5 == 0 {
			checkForms(t, n, r, 0, 1, r.Spent/2, r.Spent)
		}
	}
	if met[api.Safe] < 300 || met[api.Unsafe] < 300 || dear < 10 {
		t.Errorf("the files are too much alike: %v, %d spent", met, dear)
	}
}

func TestRunsThatTakeLong(t *testing.T) {
	met := map[api.Verdict]int{}
	long, many := 0, 0
	for seed := 1; seed <= 30; seed++ {
		n := winding(seed)
		r := checkRun(t, n)
		met[r.V]++
		long, many = max(long, len(r.Inputs)), max(many, len(r.Clauses))
		d := &dice{state: uint64(seed)}
		checkBudgets(t, n.plain(), r, d.below(r.Spent+1), r.Spent-1, r.Spent, r.Spent+1)
		checkForms(t, n, r)
	}
	if met[api.Safe] < 5 || met[api.Unsafe] < 5 || long < 15 || many < 10 {
		t.Errorf("the files are too much alike: %v, up to %d steps and %d clauses", met, long, many)
	}
}

// What is done to a result's lists shows in no other list, nor in the next run.
func TestRunListsAreTheCallers(t *testing.T) {
	clauses, inputs := 0, 0
	for seed := 1; seed <= 12; seed++ {
		n := winding(seed)
		r := checkRun(t, n)
		want := fmt.Sprintf("%+v", *r)
		again := checker.Run(n.plain(), api.Enough)
		spoil(t, r)
		if got := fmt.Sprintf("%+v", *again); got != want {
			t.Errorf("P16: a result is changed, and another one is %s, ahead of it %s", got, want)
		}
		if got := fmt.Sprintf("%+v", *checker.Run(n.plain(), api.Enough)); got != want {
			t.Errorf("P2: a result is changed, and the next run says %s, ahead of it %s", got, want)
		}
		clauses, inputs = max(clauses, len(r.Clauses)), max(inputs, len(r.Inputs))
	}
	if clauses < 3 || inputs < 3 {
		t.Errorf("too little to change: %d clauses, %d inputs", clauses, inputs)
	}
}

// spoil overwrites each list of a result, and the room behind it, and checks that the others stay as they are.
func spoil(t *testing.T, r *api.Result) {
	t.Helper()
	for k, clause := range r.Clauses {
		before := fmt.Sprint(r.Clauses[:k], r.Clauses[k+1:])
		clause = clause[:cap(clause)]
		for i := range clause {
			clause[i] = -7
		}
		if after := fmt.Sprint(r.Clauses[:k], r.Clauses[k+1:]); after != before {
			t.Errorf("P16: clause %d is changed, and %s then %s", k, before, after)
		}
	}
	inputs := r.Inputs[:cap(r.Inputs)]
	for i := range inputs {
		inputs[i] = -7
	}
}

// Files near to a good one: whatever is read of them, a run says.
func TestRunNearby(t *testing.T) {
	good := "aag 5 1 2 1 2\n2\n4 9 1\n6 10 6\n11\n8 5 7\n10 2 6\n"
	for p := 0; p < len(good); p++ {
		for b := 0; b < 128; b++ {
			file := good[:p] + string([]byte{byte(b)}) + good[p+1:]
			c, f := checker.Read(file)
			r := checker.Run(file, api.Enough)
			if r == nil || r.F != f || (r.V == api.Bad) != (c == nil) || r.V == api.Unknown {
				t.Fatalf("P12: Run(%q, Enough) = %+v, with the fault %+v", file, r, f)
			}
		}
	}
}
