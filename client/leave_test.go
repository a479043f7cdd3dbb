package client_test

import (
	"fmt"
	"testing"

	"wicket/api"
)

// P18.4: with a session the Close for it, and Unknown for all calls that have numbers.
func TestLeaveASession(t *testing.T) {
	play(t, ready(t, 3, 9, 5, 5), "leave", "0: close 9; 1 unknown, 2 unknown, 3 unknown", "see", "0: token 9 session 0 mark 0: 4 5", "leave", "; ", "see", "0: token 9 session 0 mark 0: 4 5",
		"closed 9", "", "gone 9 0", "", "see", "0: token 9 session 0 mark 0: 4 5", "step 7", "0: open 9", "opened 9 10", "", "step 7", "0: call 10 1 0 get t k | 0: call 10 2 0 get t k",
		"answered 10 1", "4 result 10 1", "leave", "0: close 10; 5 unknown", "see", "0: token 17 session 0 mark 0:")
	play(t, ready(t, 3, 9, 5, 3), "answered 9 2", "2 result 9 2", "stale 9 1", "1 unknown", "leave", "0: close 9; 3 unknown")
	play(t, made(t, 0, work(2, 9, 5)), "opened 1 9", "", "leave", "0: close 9; ", "see", "0: token 9 session 0 mark 0:")
	play(t, made(t, 0, work(2, 9, 5)), "invoke get t k", "1 open", "opened 1 9", "", "leave", "0: close 9; ", "see", "0: token 9 session 0 mark 0: 1", "leave", "; ", "see", "0: token 9 session 0 mark 0: 1")
}

// P18.4: without a session no message; a new token, if it has asked with this one, else nothing.
func TestLeaveNoSession(t *testing.T) {
	play(t, made(t, 7, work(2, 9, 5)), "leave", "; ", "see", "7: token 8 session 0 mark 0:", "invoke get t k", "1 open", "leave", "; ", "see", "7: token 8 session 0 mark 0: 1",
		"step 0", "7: open 8", "leave", "; ", "see", "7: token 16 session 0 mark 0: 1", "leave", "; ", "see", "7: token 16 session 0 mark 0: 1",
		"step 0", "7: open 16", "full 16", "", "leave", "; ", "see", "7: token 24 session 0 mark 0: 1")
	play(t, made(t, 0, work(2, 9, 5)), "step 0", "", "leave", "; ", "see", "0: token 1 session 0 mark 0:")
}

// P18.4: what it answers is nothing where there is nothing.
func TestLeaveTellsNothingAsNoLists(t *testing.T) {
	k := made(t, 0, work(2, 9, 5))
	if sent, returned := k.Leave(); sent != nil || returned != nil {
		t.Errorf("Leave: %v, %v", sent, returned)
	}
	do(k, "opened 1 9")
	if sent, returned := k.Leave(); len(sent) != 1 || returned != nil {
		t.Errorf("Leave: %v, %v", sent, returned)
	}
}

// P18.4, P18.6: tokens go on by MaxClients; no two clients ever have the same one.
func TestTokensNeverComeBack(t *testing.T) {
	had := map[int64]bool{}
	for number := range api.MaxClients {
		k := made(t, number, work(2, 9, 5))
		do(k, "invoke get t k")
		for round := range 300 {
			token := k.Token()
			if had[token] || token != int64(number+1+8*round) {
				t.Fatalf("client %d has the token %d", number, token)
			}
			had[token] = true
			switch round % 3 {
			case 0:
				play(t, k, "step 0", fmt.Sprint(number, ": open ", token), "leave", "; ")
			case 1:
				play(t, k, fmt.Sprint("opened ", token, " ", round), "", "leave", fmt.Sprint(number, ": close ", round, "; "))
			case 2:
				play(t, k, fmt.Sprint("opened ", token, " ", round), "", fmt.Sprint("gone ", round, " 0"), "")
			}
		}
	}
}
