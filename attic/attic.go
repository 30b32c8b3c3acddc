// Package attic: blocks that are imported while questions about all earlier states are answered: see DOC.md.
package attic

// Errno is what a call answers: OK or the reason for a refusal.
type Errno int

const (
	OK         Errno = iota
	ErrLong          // a batch above its bound
	ErrForm          // no batch
	ErrVersion       // no such version
	ErrFull          // too many versions
	ErrTx            // a transaction that cannot be done
	ErrArg           // too much gas
	ErrWorkers       // too many workers, or none
)

// Attic keeps all versions.
type Attic struct{}

// Check tells whether a text is a batch (P3).
func Check(batch string) (Errno, int) {
	if len(batch) > maxBatch {
		return ErrLong, 0
	}
	if at, whole := readBatch(batch); !whole {
		return ErrForm, at
	}
	return OK, 0
}

// New makes an attic (P4). It is not built yet.
func New(workers int) (*Attic, Errno) { return nil, OK }

// Ask answers a batch (P5). It is not built yet.
func (a *Attic) Ask(batch string) (string, Errno) { return "", OK }

// Versions tells how many versions there are (P4). It is not built yet.
func (a *Attic) Versions() int { return 0 }
