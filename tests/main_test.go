package tests

import (
	"runtime/debug"
	"testing"
)

// TestMain: the tests leave much behind and keep little; to look for it half as often saves a good part of their time.
func TestMain(m *testing.M) {
	debug.SetGCPercent(200)
	m.Run()
}
