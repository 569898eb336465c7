package announce

import "announce/api"

func checkConfig(c api.Config) api.Errno {
	switch {
	case !within(c.Kind, api.Counter, api.Table), !within(c.Threads, 1, api.MaxThreads), !within(c.Cap, 0, api.MaxCap):
		return api.ErrConfig
	case c.Kind == api.Table && !isTable(c.Automaton):
		return api.ErrTable
	}
	return api.OK
}

func isTable(a api.Automaton) bool {
	if !within(a.States, 1, api.MaxStates) || !within(a.Codes, 1, api.MaxCodes) {
		return false
	}
	entries := a.States * a.Codes
	if len(a.Next) != entries || len(a.Out) != entries {
		return false
	}
	for _, state := range a.Next {
		if !within(state, 0, a.States-1) {
			return false
		}
	}
	return true
}

func within(number, least, most int) bool { return number >= least && number <= most }
