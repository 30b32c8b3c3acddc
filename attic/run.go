package attic

// entry is a log: an account, and the value that its program told.
type entry struct {
	account int
	value   uint64
}

// ledger is what transactions and runs change: a state, and the logs so far.
type ledger struct {
	state state
	logs  []entry
}

// run is one running of a program.
type run struct {
	*ledger
	caller, self int
	argument     uint64
	depth        int
	gas          uint64 // what is left
	stack        []uint64
}

// stepRules tells of each kind of step what it costs, and how many numbers it
// takes from the stack and puts there.
var stepRules = [...]struct {
	cost        uint64
	takes, puts int
}{
	stepDigit:    {1, 0, 1},
	stepAdd:      {1, 2, 1},
	stepSubtract: {1, 2, 1},
	stepMultiply: {2, 2, 1},
	stepDivide:   {2, 2, 1},
	stepLess:     {1, 2, 1},
	stepSame:     {1, 2, 1},
	stepTwice:    {1, 1, 2},
	stepSwap:     {1, 2, 2},
	stepDrop:     {1, 1, 0},
	stepArgument: {1, 0, 1},
	stepCaller:   {1, 0, 1},
	stepSelf:     {1, 0, 1},
	stepBalance:  {1, 0, 1},
	stepLoad:     {3, 1, 1},
	stepStore:    {6, 2, 0},
	stepJump:     {2, 2, 0},
	stepPay:      {8, 2, 1},
	stepLog:      {4, 1, 0},
	stepRun:      {8, 3, 2},
	stepReturn:   {1, 1, 0},
	stepFail:     {1, 0, 0},
}

// outcome is how a run ended, and with what value.
type outcome struct {
	use
	value uint64
}

// run runs y's program by x. If the run fails, the ledger is as it was.
func (l *ledger) run(x, y int, gas, k uint64, depth int) outcome {
	before := *l
	r := run{ledger: l, caller: x, self: y, argument: k, depth: depth, gas: gas}
	value, well := r.steps()
	if !well {
		*l = before
	}
	return outcome{use{gas - r.gas, well}, value}
}

// steps does the program's steps, and answers its value and whether it ended
// well.
func (r *run) steps() (value uint64, well bool) {
	program := r.state[r.self].program
	length := uint64(len(program))
	place := uint64(0)
steps:
	for {
		if place == length {
			well = true
			break steps
		}
		// A place above the length is that of a jump that cannot be.
		if place > length || !r.begin(stepOf(program[place])) {
			r.gas = 0
			break steps
		}
		switch kind := stepOf(program[place]); kind {
		case stepDigit:
			r.put(uint64(program[place] - '0'))
		case stepJump:
			if s, p := r.take(), r.take(); p != 0 {
				place = s
				continue steps
			}
		case stepReturn:
			value, well = r.take(), true
			break steps
		case stepFail:
			break steps
		default:
			r.doStep(kind)
		}
		place++
	}
	return value, well
}

// begin pays for a step, if there is the gas for it and the stack is such that
// it can be done.
func (r *run) begin(kind stepKind) bool {
	rule := stepRules[kind]
	rest := len(r.stack) - rule.takes
	if r.gas < rule.cost || rest < 0 || rest+rule.puts > maxStack {
		return false
	}
	r.gas -= rule.cost
	return true
}

// doStep does a step that neither jumps nor ends the run.
func (r *run) doStep(kind stepKind) {
	self := &r.state[r.self]
	switch kind {
	case stepTwice:
		p := r.take()
		r.put(p, p)
	case stepSwap:
		q, p := r.take(), r.take()
		r.put(q, p)
	case stepDrop:
		r.take()
	case stepArgument:
		r.put(r.argument)
	case stepCaller:
		r.put(uint64(r.caller))
	case stepSelf:
		r.put(uint64(r.self))
	case stepBalance:
		r.put(self.balance)
	case stepLoad:
		r.put(*self.slot(r.take()))
	case stepStore:
		s, p := r.take(), r.take()
		*self.slot(s) = p
	case stepPay:
		s, p := r.take(), r.take()
		r.put(r.move(s, p))
	case stepLog:
		r.logs = append(r.logs, entry{r.self, r.take()})
	case stepRun:
		s, p, k := r.take(), r.take(), r.take()
		r.put(r.within(s, p, k))
	default:
		q, p := r.take(), r.take()
		r.put(reckon(kind, p, q))
	}
}

func (r *run) take() uint64 {
	top := len(r.stack) - 1
	p := r.stack[top]
	r.stack = r.stack[:top]
	return p
}

func (r *run) put(numbers ...uint64) { r.stack = append(r.stack, numbers...) }

// move answers what is put when p is to move to the account s.
func (r *run) move(s, p uint64) uint64 {
	from, to := &r.state[r.self], &r.state[s%uint64(len(r.state))]
	if from.balance < p {
		return 0
	}
	from.balance -= p
	to.balance += p
	return 1
}

// within answers what is put when the program of the account s is to be run.
func (r *run) within(s, p, k uint64) (value, well uint64) {
	if r.depth == maxDepth {
		return 0, 0
	}
	inner := r.run(r.self, int(s%uint64(len(r.state))), min(p, r.gas), k, r.depth+1)
	r.gas -= inner.gas
	return inner.value, truth(inner.well)
}

func reckon(kind stepKind, p, q uint64) uint64 {
	switch kind {
	case stepAdd:
		return p + q
	case stepSubtract:
		return p - q
	case stepMultiply:
		return p * q
	case stepDivide:
		if q == 0 {
			return 0
		}
		return p / q
	case stepLess:
		return truth(p < q)
	}
	return truth(p == q)
}

func truth(holds bool) uint64 {
	if holds {
		return 1
	}
	return 0
}
