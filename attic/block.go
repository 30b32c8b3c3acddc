package attic

import "strings"

const (
	paymentGas = 10
	programGas = 20
	callGas    = 10 // what a call uses ahead of its run
	reward     = 50
)

// version is a state with what is told of the block that made it. It is never
// written into again once it is made.
type version struct {
	ledger
	height int
	uses   []use // of each transaction of its block
}

// use is the gas that a transaction has used, and whether it ended well: a call
// may fail, and is done nevertheless.
type use struct {
	gas  uint64
	well bool
}

// next answers the version that a block makes on this one, or nil if the block
// is refused.
func (v *version) next(miner int, block []*transaction) *version {
	next := &version{ledger: ledger{state: v.state}, height: v.height + 1}
	for _, t := range block {
		used, done := next.do(t)
		if !done {
			return nil
		}
		next.state[miner].balance += used.gas
		next.uses = append(next.uses, used)
	}
	next.state[miner].balance += reward
	return next
}

// do answers what a transaction has used, and whether it was done. The miner
// has not got the gas yet.
func (l *ledger) do(t *transaction) (use, bool) {
	switch t.kind {
	case transactionPayment:
		return use{paymentGas, true}, l.state.pay(t.x, t.y, uint64(t.n))
	case transactionProgram:
		return use{programGas, true}, l.state.setProgram(t.x, t.program)
	}
	return l.call(t.x, t.y, uint64(t.n), uint64(t.k))
}

func (s *state) pay(x, y int, n uint64) bool {
	if s[x].balance < n+paymentGas {
		return false
	}
	s[x].balance -= n + paymentGas
	s[y].balance += n
	return true
}

func (s *state) setProgram(x int, program string) bool {
	if s[x].balance < programGas {
		return false
	}
	s[x].balance -= programGas
	// The program is a piece of the batch, which is not to be kept.
	s[x].program = strings.Clone(program)
	return true
}

func (l *ledger) call(x, y int, n, k uint64) (use, bool) {
	caller := &l.state[x]
	if n < callGas || n > maxGas || caller.balance < n {
		return use{}, false
	}
	caller.balance -= n
	end := l.run(x, y, n-callGas, k, 1)
	end.gas += callGas
	caller.balance += n - end.gas
	return end.use, true
}
