package wanted

import "lombard/api"

// Settle returns what a claimant pays, and what the pledger owes the shop.
func Settle(c api.Claim) (claimant, pledger int, e api.Errno) {
	if !within(c.Loan, 0, api.MaxPrice) || !isDay(c.Lent) || !isDay(c.Listed) || !within(c.Share, 0, api.Shares) {
		return 0, 0, api.ErrClaim
	}
	if c.Listed > c.Lent {
		claimant = c.Loan * c.Share / api.Shares
	}
	return claimant, c.Loan - claimant, api.OK
}
