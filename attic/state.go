package attic

const (
	accountNames = "abcdefgh"
	slotNames    = "0123456789abcdef"

	firstBalance = 1000
)

type account struct {
	balance uint64
	program string
	slots   [len(slotNames)]uint64
}

func (a *account) slot(s uint64) *uint64 { return &a.slots[s%uint64(len(a.slots))] }

// A state is copied to be changed: one that a version holds is never written
// into, so that any goroutine may read it without a lock.
type state [len(accountNames)]account

func firstState() state {
	var s state
	for i := range s {
		s[i].balance = firstBalance
	}
	return s
}

// differences tells in what two states differ, in the document's order.
func differences(v, w *state) []string {
	var all []string
	for i := range v {
		name := accountNames[i : i+1]
		p, q := &v[i], &w[i]
		if p.balance != q.balance {
			all = append(all, name+"$")
		}
		if p.program != q.program {
			all = append(all, name+"{")
		}
		for s := range p.slots {
			if p.slots[s] != q.slots[s] {
				all = append(all, name+slotNames[s:s+1])
			}
		}
	}
	return all
}
