package attic

const (
	maxBatch    = 1200
	maxRequests = 24
	maxTx       = 8
	maxCode     = 40
	maxVersions = 40
	maxGas      = 400
	maxDepth    = 4
	maxStack    = 32
	maxWorkers  = 8

	versionDigits = 2
	numberDigits  = 6
)

type requestKind int

const (
	requestNone requestKind = iota
	requestImport
	requestSlot
	requestBalance
	requestCall
	requestLeastGas
	requestDigest
	requestLogs
	requestGasUsed
	requestDifference
)

// requestOf answers which request a letter begins.
func requestOf(c byte) requestKind {
	switch c {
	case 'i':
		return requestImport
	case 'g':
		return requestSlot
	case 'b':
		return requestBalance
	case 'c':
		return requestCall
	case 'm':
		return requestLeastGas
	case 'r':
		return requestDigest
	case 'l':
		return requestLogs
	case 'u':
		return requestGasUsed
	case 'd':
		return requestDifference
	}
	return requestNone
}

type transactionKind int

const (
	transactionNone transactionKind = iota
	transactionPayment
	transactionProgram
	transactionCall
)

// transactionOf answers which transaction a byte behind its first account tells.
func transactionOf(c byte) transactionKind {
	switch c {
	case '>':
		return transactionPayment
	case '{':
		return transactionProgram
	case ':':
		return transactionCall
	}
	return transactionNone
}

type stepKind int

const (
	stepNone stepKind = iota
	stepDigit
	stepAdd
	stepSubtract
	stepMultiply
	stepDivide
	stepLess
	stepSame
	stepTwice
	stepSwap
	stepDrop
	stepArgument
	stepCaller
	stepSelf
	stepBalance
	stepLoad
	stepStore
	stepJump
	stepPay
	stepLog
	stepRun
	stepReturn
	stepFail
)

// stepOf answers which step of a program a byte is.
func stepOf(c byte) stepKind {
	switch c {
	case '0', '1', '2', '3', '4', '5', '6', '7', '8', '9':
		return stepDigit
	case '+':
		return stepAdd
	case '-':
		return stepSubtract
	case '*':
		return stepMultiply
	case '/':
		return stepDivide
	case '<':
		return stepLess
	case '=':
		return stepSame
	case 'd':
		return stepTwice
	case 'x':
		return stepSwap
	case 'p':
		return stepDrop
	case 'k':
		return stepArgument
	case 'c':
		return stepCaller
	case 'y':
		return stepSelf
	case 'b':
		return stepBalance
	case 'l':
		return stepLoad
	case 't':
		return stepStore
	case 'j':
		return stepJump
	case 'v':
		return stepPay
	case 'e':
		return stepLog
	case 'o':
		return stepRun
	case 'r':
		return stepReturn
	case 'f':
		return stepFail
	}
	return stepNone
}
