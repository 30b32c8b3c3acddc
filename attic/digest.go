package attic

const (
	digestBase   = 14695981039346656037
	digestFactor = 1099511628211
)

func takeByte(n uint64, c byte) uint64 { return (n ^ uint64(c)) * digestFactor }

// takeNumber takes in the eight bytes of a number, the highest first.
func takeNumber(n, number uint64) uint64 {
	for shift := 56; shift >= 0; shift -= 8 {
		n = takeByte(n, byte(number>>shift))
	}
	return n
}

// treeDigest makes one digest of two, four, eight or sixteen. They are written
// over.
func treeDigest(digests []uint64) uint64 {
	for len(digests) > 1 {
		half := len(digests) / 2
		for i := range half {
			digests[i] = takeNumber(takeNumber(digestBase, digests[2*i]), digests[2*i+1])
		}
		digests = digests[:half]
	}
	return digests[0]
}

func (a *account) digest() uint64 {
	var slots [len(slotNames)]uint64
	for i, held := range a.slots {
		slots[i] = takeNumber(digestBase, held)
	}
	n := takeNumber(digestBase, a.balance)
	n = takeNumber(n, treeDigest(slots[:]))
	for i := range len(a.program) {
		n = takeByte(n, a.program[i])
	}
	return n
}

func (s *state) digest() uint64 {
	var accounts [len(accountNames)]uint64
	for i := range s {
		accounts[i] = s[i].digest()
	}
	return treeDigest(accounts[:])
}
