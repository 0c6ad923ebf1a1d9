package impl

import (
	"strconv"
	"strings"
)

// Codes. CodeName names them in this order.
const (
	OK = iota
	ErrInvalid
	ErrRange
	ErrNotFound
	ErrExists
	ErrFull
	ErrState
	ErrSyntax
	ErrDomain
	ErrUnknown
)

// Answers. AnswerName names them in this order.
const (
	AnNo = iota
	AnYes
	AnUnknown
)

// MaxName is the greatest number of bytes of a name.
const MaxName = 10

// greatestRead is the greatest number of 18 digits. Numbers of 19 digits are
// not read, though some of them are int64.
const greatestRead = 999999999999999999

var codeNames = [...]string{
	"ok", "invalid", "range", "not-found", "exists",
	"full", "state", "syntax", "domain", "unknown",
}

var answerNames = [...]string{"no", "yes", "unknown"}

// CodeName returns the name of a code.
func CodeName(code int64) string {
	if code < 0 || code >= int64(len(codeNames)) {
		return ""
	}
	return codeNames[code]
}

// AnswerName returns the name of an answer.
func AnswerName(answer int64) string {
	if answer < 0 || answer >= int64(len(answerNames)) {
		return ""
	}
	return answerNames[answer]
}

// AndAnswer combines two answers by and.
func AndAnswer(a, b int64) int64 {
	switch {
	case a == AnNo || b == AnNo:
		return AnNo
	case a == AnYes && b == AnYes:
		return AnYes
	}
	return AnUnknown
}

// OrAnswer combines two answers by or.
func OrAnswer(a, b int64) int64 {
	switch {
	case a == AnYes || b == AnYes:
		return AnYes
	case a == AnNo && b == AnNo:
		return AnNo
	}
	return AnUnknown
}

// NotAnswer negates an answer.
func NotAnswer(a int64) int64 {
	switch a {
	case AnNo:
		return AnYes
	case AnYes:
		return AnNo
	}
	return AnUnknown
}

// IsName reports whether s is a name.
func IsName(s string) bool {
	if len(s) == 0 || len(s) > MaxName {
		return false
	}
	for i, r := range s {
		switch {
		case 'a' <= r && r <= 'z':
		case '0' <= r && r <= '9' && i > 0:
		default:
			return false
		}
	}
	return true
}

// Decimal returns the decimal form of a number.
func Decimal(n int64) string { return strconv.FormatInt(n, 10) }

// ReadDecimal returns the number with a decimal form.
func ReadDecimal(s string) (int64, bool) {
	n, err := strconv.ParseInt(s, 10, 64)
	if err != nil || n < -greatestRead || n > greatestRead {
		return 0, false
	}
	// ParseInt also reads leading zeros, a plus sign and -0.
	if Decimal(n) != s {
		return 0, false
	}
	return n, true
}

// SplitWords returns the parts of a text without blanks.
func SplitWords(s string) []string { return strings.FieldsFunc(s, isBlank) }

// isBlank reports whether a character is a blank; other white space is not.
func isBlank(r rune) bool { return r == ' ' }
