package attic

import "strings"

const (
	paymentGas = 10
	programGas = 20
	reward     = 50
)

// version is a state with the block that made it. It is never written into
// again once it is made.
type version struct {
	state  state
	height int
	gas    []uint64 // what each transaction of its block has used
}

// next answers the version that a block makes on this one, or nil if the block
// is refused.
func (v *version) next(miner int, block []*transaction) *version {
	next := &version{state: v.state, height: v.height + 1}
	for _, t := range block {
		gas, done := next.state.do(t)
		if !done {
			return nil
		}
		next.state[miner].balance += gas
		next.gas = append(next.gas, gas)
	}
	next.state[miner].balance += reward
	return next
}

// do answers the gas that a transaction has used, and whether it was done. The
// miner has not got the gas yet.
func (s *state) do(t *transaction) (uint64, bool) {
	switch t.kind {
	case transactionPayment:
		return paymentGas, s.pay(t.x, t.y, uint64(t.n))
	case transactionProgram:
		return programGas, s.setProgram(t.x, t.program)
	}
	return 0, false
}

func (s *state) pay(x, y int, n uint64) bool {
	if s[x].balance < n+paymentGas {
		return false
	}
	s[x].balance -= n + paymentGas
	s[y].balance += n
	return true
}

func (s *state) setProgram(x int, program string) bool {
	if s[x].balance < programGas {
		return false
	}
	s[x].balance -= programGas
	// The program is a piece of the batch, which is not to be kept.
	s[x].program = strings.Clone(program)
	return true
}
