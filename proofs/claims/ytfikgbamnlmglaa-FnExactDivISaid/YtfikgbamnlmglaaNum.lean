/- Plain arithmetic of wide integers: a wide integer v has the halves hiW v and loW v; what lies between -2^127 and 2^127 - 1 is given back by its halves. Conditions: as each lemma says. -/
namespace Go.Proofs.Ytfikgbamnlmglaa

/-- 2^64. -/
def B64 : Int := 18446744073709551616
/-- The high half of a wide integer. -/
def hiW (v : Int) : Int := v / B64
/-- The low half. -/
def loW (v : Int) : Int := v % B64
/-- What a Wide can hold. -/
def InW (v : Int) : Prop := -170141183460469231731687303715884105728 ≤ v ∧ v ≤ 170141183460469231731687303715884105727
/-- What an int64 can hold. -/
def In64 (v : Int) : Prop := -9223372036854775808 ≤ v ∧ v ≤ 9223372036854775807
/-- What a uint64 can hold. -/
def InU (v : Int) : Prop := 0 ≤ v ∧ v ≤ 18446744073709551615

theorem hiW_in {v : Int} (h : InW v) : -9223372036854775808 ≤ hiW v ∧ hiW v ≤ 9223372036854775807 := by
  unfold InW at h; unfold hiW B64; omega
theorem loW_in (v : Int) : 0 ≤ loW v ∧ loW v ≤ 18446744073709551615 := by
  unfold loW B64; omega
theorem val_hl (v : Int) : hiW v * B64 + loW v = v := by
  unfold hiW loW B64; omega
theorem hl_val (h l : Int) (h0 : 0 ≤ l) (h1 : l ≤ 18446744073709551615) : hiW (h * B64 + l) = h ∧ loW (h * B64 + l) = l := by
  unfold hiW loW B64; omega
/-- Every pair of halves is that of a wide integer. -/
theorem of_halves (h l : Int) (a : -9223372036854775808 ≤ h ∧ h ≤ 9223372036854775807) (b : 0 ≤ l ∧ l ≤ 18446744073709551615) :
    ∃ v, InW v ∧ h = hiW v ∧ l = loW v :=
  ⟨h * B64 + l, by unfold InW B64; omega, (hl_val h l b.1 b.2).1.symm, (hl_val h l b.1 b.2).2.symm⟩
theorem same_hl {u v : Int} (h : hiW u = hiW v) (l : loW u = loW v) : u = v := by
  rw [← val_hl u, ← val_hl v, h, l]
theorem hiW_small {n : Int} (h : In64 n) : hiW n = if n < 0 then -1 else 0 := by
  unfold In64 at h; unfold hiW B64; split <;> omega
theorem hiW_neg {n : Int} (h : In64 n) (hn : n < 0) : hiW n = -1 := by
  unfold In64 at h; unfold hiW B64; omega
theorem hiW_pos {n : Int} (h : In64 n) (hn : ¬ n < 0) : hiW n = 0 := by
  unfold In64 at h; unfold hiW B64; omega
end Go.Proofs.Ytfikgbamnlmglaa
