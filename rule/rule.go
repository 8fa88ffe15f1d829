// Package rule says what may stand in a field, once, for all layers that ask for it.
package rule

import "hearsay/api"

// MaxAddress is the greatest address: addresses have four bytes.
const MaxAddress = 1<<32 - 1

// Within: is n from low to high?
func Within(n, low, high int) bool { return low <= n && n <= high }

// Address: may n be an address?
func Address(n int) bool { return Within(n, 0, MaxAddress) }

// Label: is the text a LABEL of chapter 1?
func Label(text string) bool {
	if !Within(len(text), 1, api.MaxLabel) {
		return false
	}
	for i := range len(text) {
		if !labelByte(text[i]) {
			return false
		}
	}
	return true
}

// Labels: is each of the texts a LABEL?
func Labels(texts ...string) bool {
	for _, text := range texts {
		if !Label(text) {
			return false
		}
	}
	return true
}

// LabelsOrEmpty: is each of the texts a LABEL, or empty?
func LabelsOrEmpty(texts ...string) bool {
	for _, text := range texts {
		if text != "" && !Label(text) {
			return false
		}
	}
	return true
}

// Type: is t one of the types of questions and records?
func Type(t int) bool {
	return t == api.TypeAddress || t == api.TypeText || t == api.TypeService
}

func labelByte(b byte) bool {
	return 'a' <= b && b <= 'z' || '0' <= b && b <= '9' || b == '-' || b == '_'
}
