package attic

import "strings"

// headName stands for the version's name h, where any other is its number.
const headName = -1

// terms are what x, y, n and k stand for in a request or a transaction.
type terms struct {
	x, y int
	n, k int
}

type request struct {
	terms
	kind  requestKind
	v, w  int // versions' names
	slot  int
	block []*transaction
}

type transaction struct {
	terms
	kind    transactionKind
	program string
}

// A shape tells by letters what must stand, as the document's tables do: V and
// W a version's name, x and y an account, n and k a number, s a slot. Beyond
// those: R a request's letter, B the transactions of a block or none, T the
// byte that tells a transaction's kind, P a program's steps and the brace
// behind them. Any other byte stands for itself.

// requestShape answers what must stand behind a request's letter.
func requestShape(kind requestKind) string {
	switch kind {
	case requestImport:
		return "V:x/B"
	case requestSlot:
		return "V:xs"
	case requestBalance:
		return "V:x"
	case requestCall:
		return "V:x>y(n,k)"
	case requestLeastGas:
		return "V:x>y(k)"
	case requestDifference:
		return "V:W"
	}
	return "V"
}

// transactionShape answers what must stand behind the byte that tells a
// transaction's kind.
func transactionShape(kind transactionKind) string {
	switch kind {
	case transactionPayment:
		return "y=n"
	case transactionProgram:
		return "P"
	}
	return "y(n,k)"
}

// reader is how far a batch has been read, and what it has told.
type reader struct {
	rest        string       // the shape of what must still stand
	requests    []*request   // those that have begun
	request     *request     // the last of them
	transaction *transaction // the last of its block
	terms       *terms       // those of the request or transaction at hand
	number      *int         // the name or number just read
	digits      int          // how many more digits it may have
	steps       int          // how many the program at hand has
}

// readBatch answers the requests of a batch; the place of the first byte that
// cannot stand there, or the text's length; and whether the text is a batch.
func readBatch(batch string) ([]*request, int, bool) {
	if batch == "" {
		return nil, 0, true
	}
	r := reader{rest: "R"}
	at := r.read(batch)
	return r.requests, at, at == len(batch) && (r.rest == "" || r.rest == "B")
}

// read answers how many bytes can stand, from the first on.
func (r *reader) read(batch string) int {
	at := 0
bytes:
	for ; at < len(batch); at++ {
		c := batch[at]
		if r.digits > 0 && isDigit(c) {
			r.digits--
			*r.number = *r.number*10 + int(c-'0')
			continue bytes
		}
		r.digits = 0
		if r.rest == "" {
			if !r.goOn(c) {
				break bytes
			}
			continue bytes
		}
		switch want := r.rest[0]; want {
		case 'R':
			if !r.beginRequest(requestOf(c)) {
				break bytes
			}
			continue bytes
		case 'B':
			if isAccount(c) {
				r.beginTransaction()
				r.take('x', c)
			} else if !r.goOn(c) {
				break bytes
			}
			continue bytes
		case 'T':
			if !r.shapeTransaction(transactionOf(c)) {
				break bytes
			}
			continue bytes
		case 'P':
			if c != '}' {
				if r.steps == maxCode || stepOf(c) == stepNone {
					break bytes
				}
				r.steps++
				continue bytes
			}
			r.transaction.program = batch[at-r.steps : at]
		default:
			if !fits(want, c) {
				break bytes
			}
			r.take(want, c)
		}
		r.rest = r.rest[1:]
	}
	return at
}

// goOn takes the byte behind a whole request or transaction.
func (r *reader) goOn(c byte) bool {
	transactions := len(r.request.block)
	switch {
	case c == ';' && len(r.requests) < maxRequests:
		r.rest = "R"
	case c == ',' && transactions > 0 && transactions < maxTx:
		r.beginTransaction()
		r.rest = "xT"
	default:
		return false
	}
	return true
}

func (r *reader) beginRequest(kind requestKind) bool {
	if kind == requestNone {
		return false
	}
	r.request = &request{kind: kind}
	r.requests = append(r.requests, r.request)
	r.terms = &r.request.terms
	r.rest = requestShape(kind)
	return true
}

// beginTransaction leaves what must stand behind the transaction's account.
func (r *reader) beginTransaction() {
	r.transaction = new(transaction)
	r.request.block = append(r.request.block, r.transaction)
	r.terms = &r.transaction.terms
	r.rest = "T"
}

func (r *reader) shapeTransaction(kind transactionKind) bool {
	if kind == transactionNone {
		return false
	}
	r.transaction.kind = kind
	r.steps = 0
	r.rest = transactionShape(kind)
	return true
}

// fits tells whether a byte can be, or begin, what is wanted.
func fits(want, c byte) bool {
	switch want {
	case 'V', 'W':
		return c == 'h' || isDigit(c)
	case 'n', 'k':
		return isDigit(c)
	case 'x', 'y':
		return isAccount(c)
	case 's':
		return isSlot(c)
	}
	return c == want
}

// take keeps what a byte tells that is, or begins, what was wanted.
func (r *reader) take(want, c byte) {
	switch want {
	case 'V':
		r.takeFirst(&r.request.v, c, versionDigits)
	case 'W':
		r.takeFirst(&r.request.w, c, versionDigits)
	case 'x':
		r.terms.x = strings.IndexByte(accountNames, c)
	case 'y':
		r.terms.y = strings.IndexByte(accountNames, c)
	case 'n':
		r.takeFirst(&r.terms.n, c, numberDigits)
	case 'k':
		r.takeFirst(&r.terms.k, c, numberDigits)
	case 's':
		r.request.slot = strings.IndexByte(slotNames, c)
	}
}

// takeFirst begins a name or number of at most so many digits: none more may
// stand behind a nought, nor behind the head's letter.
func (r *reader) takeFirst(number *int, c byte, most int) {
	if c == 'h' {
		*number = headName
		return
	}
	r.number = number
	*number = int(c - '0')
	if c != '0' {
		r.digits = most - 1
	}
}

func isDigit(c byte) bool { return '0' <= c && c <= '9' }

func isAccount(c byte) bool { return strings.IndexByte(accountNames, c) >= 0 }

func isSlot(c byte) bool { return strings.IndexByte(slotNames, c) >= 0 }
