// Package attic: blocks that are imported while questions about all earlier states are answered: see DOC.md.
package attic

import "strings"

// Errno is what a call answers: OK or the reason for a refusal.
type Errno int

const (
	OK         Errno = iota
	ErrLong          // a batch above its bound
	ErrForm          // no batch
	ErrVersion       // no such version
	ErrFull          // too many versions
	ErrTx            // a transaction that cannot be done
	ErrArg           // too much gas
	ErrWorkers       // too many workers, or none
)

// Attic keeps all versions.
type Attic struct {
	workers int
	shelf   shelf
}

// Check tells whether a text is a batch (P3).
func Check(batch string) (Errno, int) {
	_, e, at := look(batch)
	return e, at
}

// New makes an attic (P4).
func New(workers int) (*Attic, Errno) {
	if workers < 1 || workers > maxWorkers {
		return nil, ErrWorkers
	}
	return &Attic{workers: workers, shelf: firstShelf()}, OK
}

// Ask answers a batch (P5).
func (a *Attic) Ask(batch string) (string, Errno) {
	requests, e, _ := look(batch)
	if e != OK {
		return "", e
	}
	answers, left := a.shelf.serve(requests, a.workers)
	a.shelf = left
	return strings.Join(answers, ";"), OK
}

// Versions tells how many versions there are (P4).
func (a *Attic) Versions() int { return len(a.shelf) }

// look answers the requests of a batch, or why there are none and where.
func look(batch string) ([]*request, Errno, int) {
	if len(batch) > maxBatch {
		return nil, ErrLong, 0
	}
	requests, at, whole := readBatch(batch)
	if !whole {
		return nil, ErrForm, at
	}
	return requests, OK, 0
}
