package attic

// A shape tells by letters what must stand, as the document's tables do: V and
// W a version's name, x and y an account, n and k a number, s a slot. Beyond
// those: R a request's letter, B the transactions of a block or none, T the
// byte that tells a transaction's kind, P a program's steps and the brace
// behind them. Any other byte stands for itself.

// requestShape answers what must stand behind a request's letter.
func requestShape(kind requestKind) string {
	switch kind {
	case requestImport:
		return "V:x/B"
	case requestSlot:
		return "V:xs"
	case requestBalance:
		return "V:x"
	case requestCall:
		return "V:x>y(n,k)"
	case requestLeastGas:
		return "V:x>y(k)"
	case requestDifference:
		return "V:W"
	}
	return "V"
}

// transactionShape answers what must stand behind the byte that tells a
// transaction's kind.
func transactionShape(kind transactionKind) string {
	switch kind {
	case transactionPayment:
		return "y=n"
	case transactionProgram:
		return "P"
	}
	return "y(n,k)"
}

// reader is how far a batch has been read.
type reader struct {
	rest         string // the shape of what must still stand
	digits       int    // how many more digits the name or number just read may have
	requests     int    // how many requests have begun
	transactions int    // how many the request at hand has
	steps        int    // how many the program at hand has
}

// readBatch answers the place of the first byte that cannot stand there, or the
// text's length, and whether the text is a batch.
func readBatch(batch string) (int, bool) {
	if batch == "" {
		return 0, true
	}
	r := reader{rest: "R"}
	at := r.read(batch)
	return at, at == len(batch) && (r.rest == "" || r.rest == "B")
}

// read answers how many bytes can stand, from the first on.
func (r *reader) read(batch string) int {
	at := 0
bytes:
	for ; at < len(batch); at++ {
		c := batch[at]
		if r.digits > 0 && isDigit(c) {
			r.digits--
			continue bytes
		}
		r.digits = 0
		if r.rest == "" {
			if !r.goOn(c) {
				break bytes
			}
			continue bytes
		}
		switch want := r.rest[0]; want {
		case 'R':
			if !r.beginRequest(requestOf(c)) {
				break bytes
			}
			continue bytes
		case 'B':
			if isAccount(c) {
				r.rest = "T"
			} else if !r.goOn(c) {
				break bytes
			}
			continue bytes
		case 'T':
			if !r.beginTransaction(transactionOf(c)) {
				break bytes
			}
			continue bytes
		case 'P':
			if c != '}' {
				if r.steps == maxCode || stepOf(c) == stepNone {
					break bytes
				}
				r.steps++
				continue bytes
			}
		default:
			if !fits(want, c) {
				break bytes
			}
			r.digits = moreDigits(want, c)
		}
		r.rest = r.rest[1:]
	}
	return at
}

// goOn takes the byte behind a whole request or transaction.
func (r *reader) goOn(c byte) bool {
	switch {
	case c == ';' && r.requests < maxRequests:
		r.rest = "R"
	case c == ',' && r.transactions > 0 && r.transactions < maxTx:
		r.rest = "xT"
	default:
		return false
	}
	return true
}

func (r *reader) beginRequest(kind requestKind) bool {
	if kind == requestNone {
		return false
	}
	r.requests++
	r.transactions = 0
	r.rest = requestShape(kind)
	return true
}

func (r *reader) beginTransaction(kind transactionKind) bool {
	if kind == transactionNone {
		return false
	}
	r.transactions++
	r.steps = 0
	r.rest = transactionShape(kind)
	return true
}

// fits tells whether a byte can be, or begin, what is wanted.
func fits(want, c byte) bool {
	switch want {
	case 'V', 'W':
		return c == 'h' || isDigit(c)
	case 'n', 'k':
		return isDigit(c)
	case 'x', 'y':
		return isAccount(c)
	case 's':
		return isDigit(c) || 'a' <= c && c <= 'f'
	}
	return c == want
}

// moreDigits answers how many digits may stand behind the first byte of what is
// wanted: none behind a nought, nor behind the head's letter.
func moreDigits(want, first byte) int {
	if first == '0' || !isDigit(first) {
		return 0
	}
	switch want {
	case 'V', 'W':
		return versionDigits - 1
	case 'n', 'k':
		return numberDigits - 1
	}
	return 0
}

func isDigit(c byte) bool { return '0' <= c && c <= '9' }

func isAccount(c byte) bool { return 'a' <= c && c <= 'h' }
