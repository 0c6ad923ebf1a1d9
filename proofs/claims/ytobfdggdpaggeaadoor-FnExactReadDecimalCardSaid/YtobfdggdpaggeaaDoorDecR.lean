/- Numbers of reading decimal texts: the library's parse and the model's give the same number. No conditions. -/
import Derived.Test.YtobfdggdpaggeaaDoorDecN
import Derived.Lib.ParseIntB
import Derived.Lib.ParseIntBTie
import Derived.Lib.AtoiTie
import Derived.Lib.ItoaMem
namespace Go.Proofs.YtobfdggdpaggeaaDoor
set_option linter.unusedVariables false
set_option maxRecDepth 100000
set_option linter.unusedSimpArgs false
set_option maxHeartbeats 1000000

/-- A number of at most 18 digits with this text. -/
def RD (l : List UInt8) (v : Int) : Prop := -999999999999999999 ≤ v ∧ v ≤ 999999999999999999 ∧ Lib.itoa v = l
def rdP (l : List UInt8) : Option Int :=
  match Lib.parseIntB 64 l with
  | .ok v => if -999999999999999999 ≤ v ∧ v ≤ 999999999999999999 ∧ Lib.itoa v = l then some v else none
  | _ => none
def tailOf (l : List UInt8) : List UInt8 := if l.head? = some 45 then l.tail else l
def signed (l : List UInt8) (m : Nat) : Int := if l.head? = some 45 then -(m : Int) else m
def rdM (l : List UInt8) : Option Int :=
  if 1 ≤ (tailOf l).length ∧ (tailOf l).length ≤ 18 then
    match Lib.decNat (tailOf l) with
    | some m => if Lib.itoa (signed l m) = l then some (signed l m) else none
    | none => none
  else none
theorem decFrom_snoc (l : List UInt8) : ∀ acc n b d, Lib.decFrom acc l = some n → Lib.digitVal b = some d → Lib.decFrom acc (l ++ [b]) = some (n * 10 + d) := by
  induction l with
  | nil => intro acc n b d h k; simp [Lib.decFrom] at h; subst h; simp [Lib.decFrom, k]
  | cons a t ih =>
    intro acc n b d h k
    simp only [List.cons_append, Lib.decFrom] at h ⊢
    cases hd : Lib.digitVal a with
    | none => rw [hd] at h; simp at h
    | some e => rw [hd] at h; simp at h ⊢; exact ih _ _ _ _ h k
theorem digit_ofNat {d : Nat} (h : d ≤ 9) : Lib.digitVal (UInt8.ofNat (48 + d)) = some d := by
  have e : (UInt8.ofNat (48 + d)).toNat = 48 + d := by rw [UInt8.toNat_ofNat']; omega
  unfold Lib.digitVal
  rw [e, if_pos (by omega)]; congr 1; omega
theorem dec_read (u : Nat) : Lib.decFrom 0 (Lib.decDigits u) = some u := by
  induction u using Nat.strongRecOn with
  | _ u ih =>
    rw [Lib.decDigits]
    by_cases c : u < 10
    · rw [dif_pos c]; simp only [Lib.decFrom]; rw [digit_ofNat (show u ≤ 9 by omega)]; simp
    · rw [dif_neg c, decFrom_snoc _ _ _ _ _ (ih (u / 10) (by omega)) (digit_ofNat (show u % 10 ≤ 9 by omega))]
      congr 1; omega
theorem dec_len (u : Nat) : ∀ d, u < 10 ^ (d + 1) → (Lib.decDigits u).length ≤ d + 1 := by
  induction u using Nat.strongRecOn with
  | _ u ih =>
    intro d h
    rw [Lib.decDigits]
    by_cases c : u < 10
    · rw [dif_pos c]; simp
    · rw [dif_neg c]
      cases d with
      | zero => simp at h; omega
      | succ d =>
        have := ih (u / 10) (by omega) d (by rw [Nat.pow_succ] at h; omega)
        simp; omega
theorem dec_ne (u : Nat) : Lib.decDigits u ≠ [] := by
  rw [Lib.decDigits]; split <;> simp
theorem dec_nat (u : Nat) : Lib.decNat (Lib.decDigits u) = some u := by
  unfold Lib.decNat
  have := dec_ne u
  rw [if_neg (by simp [this]), dec_read]
theorem dec_head (u : Nat) : ∃ c r, Lib.decDigits u = c :: r ∧ c.toNat ≠ 43 ∧ c.toNat ≠ 45 := by
  cases h : Lib.decDigits u with
  | nil => exact absurd h (dec_ne u)
  | cons c r =>
    refine ⟨c, r, rfl, ?_⟩
    have k := dec_read u
    rw [h] at k
    simp only [Lib.decFrom] at k
    cases hd : Lib.digitVal c with
    | none => rw [hd] at k; simp at k
    | some e =>
      unfold Lib.digitVal at hd
      split at hd
      · rename_i q; constructor <;> omega
      · cases hd
theorem dec_lt (l : List UInt8) : ∀ acc m, Lib.decFrom acc l = some m → m < (acc + 1) * 10 ^ l.length := by
  induction l with
  | nil => intro acc m h; simp [Lib.decFrom] at h; subst h; simp
  | cons a t ih =>
    intro acc m h
    simp only [Lib.decFrom] at h
    cases hd : Lib.digitVal a with
    | none => rw [hd] at h; simp at h
    | some e =>
      rw [hd] at h; simp at h
      have k := ih _ _ h
      have e9 : e ≤ 9 := by
        unfold Lib.digitVal at hd
        split at hd
        · simp at hd; omega
        · cases hd
      have p : 0 < 10 ^ t.length := Nat.pow_pos (by omega)
      have q : (acc * 10 + e + 1) * 10 ^ t.length ≤ ((acc + 1) * 10) * 10 ^ t.length := Nat.mul_le_mul_right _ (by omega)
      rw [List.length_cons, Nat.pow_succ]
      have r : (acc + 1) * (10 ^ t.length * 10) = ((acc + 1) * 10) * 10 ^ t.length := by rw [Nat.mul_comm (10 ^ t.length) 10, Nat.mul_assoc]
      omega
theorem small_18 {u : Nat} (h : u ≤ 999999999999999999) : (Lib.decDigits u).length ≤ 18 := dec_len u 17 (by have t : (10 : Nat) ^ (17 + 1) = 1000000000000000000 := (by decide); omega)
theorem parse_itoa {v : Int} (h0 : -999999999999999999 ≤ v) (h1 : v ≤ 999999999999999999) : Lib.parseIntB 64 (Lib.itoa v) = .ok v := by
  rw [Lib.parseIntB_64]
  by_cases s : v < 0
  · obtain ⟨u, hu⟩ : ∃ u : Nat, v = -(u : Int) := ⟨v.natAbs, by omega⟩
    subst hu
    rw [Lib.itoa_neg u (by omega)]
    have pm : Lib.parseMag (Lib.decDigits u) = .ok u := by rw [Lib.parseMag_short _ (small_18 (by omega)), dec_nat]; rfl
    unfold Lib.atoiAll
    simp only [show (45 : UInt8).toNat = 45 from rfl, or_true, if_true, pm]
    rw [if_neg (by simp), if_neg (by simp; omega)]
  · obtain ⟨u, hu⟩ : ∃ u : Nat, v = (u : Int) := ⟨v.toNat, by omega⟩
    subst hu
    rw [Lib.itoa_nonneg u]
    have pm : Lib.parseMag (Lib.decDigits u) = .ok u := by rw [Lib.parseMag_short _ (small_18 (by omega)), dec_nat]; rfl
    obtain ⟨c, r, hc, n43, n45⟩ := dec_head u
    rw [hc] at pm ⊢
    unfold Lib.atoiAll
    simp only [n43, n45, or_self, if_false, pm]
    rw [if_neg (by simp; omega), if_neg (by simp)]
theorem rdP_iff (l : List UInt8) (v : Int) : rdP l = some v ↔ RD l v := by
  constructor
  · intro h
    unfold rdP at h
    cases hp : Lib.parseIntB 64 l with
    | ok u =>
      rw [hp] at h; simp only at h
      split at h
      · rename_i q; simp at h; subst h; exact q
      · cases h
    | _ => rw [hp] at h; cases h
  · rintro ⟨a, b, rfl⟩
    unfold rdP
    rw [parse_itoa a b]
    exact if_pos ⟨a, b, rfl⟩
theorem rdM_iff (l : List UInt8) (v : Int) : rdM l = some v ↔ RD l v := by
  constructor
  · intro h
    unfold rdM at h
    split at h
    · rename_i q
      cases hd : Lib.decNat (tailOf l) with
      | none => rw [hd] at h; cases h
      | some m =>
        rw [hd] at h; simp only at h
        split at h
        · rename_i e
          simp at h
          subst h
          have lt := dec_lt (tailOf l) 0 m (Lib.decNat_some hd).2
          have p : 10 ^ (tailOf l).length ≤ 10 ^ 18 := Nat.pow_le_pow_right (by omega) q.2
          have t : (10 : Nat) ^ 18 = 1000000000000000000 := by decide
          refine ⟨?_, ?_, e⟩ <;> (unfold signed; split <;> omega)
        · cases h
    · cases h
  · rintro ⟨a, b, e⟩
    by_cases s : v < 0
    · obtain ⟨u, hu⟩ : ∃ u : Nat, v = -(u : Int) := ⟨v.natAbs, by omega⟩
      subst hu
      rw [Lib.itoa_neg u (by omega)] at e
      have tl : tailOf l = Lib.decDigits u := by rw [← e]; rfl
      have sg : signed l u = -(u : Int) := by rw [← e]; rfl
      have ln := small_18 (u := u) (by omega)
      have ne : 1 ≤ (Lib.decDigits u).length := by
        have := dec_ne u
        cases h : Lib.decDigits u with
        | nil => exact absurd h this
        | cons c r => simp
      unfold rdM
      rw [tl, if_pos ⟨ne, ln⟩, dec_nat]
      simp only
      rw [sg, Lib.itoa_neg u (by omega), if_pos e]
    · obtain ⟨u, hu⟩ : ∃ u : Nat, v = (u : Int) := ⟨v.toNat, by omega⟩
      subst hu
      rw [Lib.itoa_nonneg u] at e
      obtain ⟨c, r, hc, n43, n45⟩ := dec_head u
      have hh : ¬ l.head? = some 45 := by
        rw [← e, hc]; intro k; simp at k; rw [k] at n45; exact n45 rfl
      have tl : tailOf l = Lib.decDigits u := by unfold tailOf; rw [if_neg hh, e]
      have sg : signed l u = (u : Int) := if_neg hh
      have ln := small_18 (u := u) (by omega)
      have ne : 1 ≤ (Lib.decDigits u).length := by rw [hc]; simp
      unfold rdM
      rw [tl, if_pos ⟨ne, ln⟩, dec_nat]
      simp only
      rw [sg, Lib.itoa_nonneg u, if_pos e]
theorem rd_same (l : List UInt8) : rdP l = rdM l := by
  cases h : rdM l with
  | some v => exact (rdP_iff l v).2 ((rdM_iff l v).1 h)
  | none =>
    cases k : rdP l with
    | none => rfl
    | some v => rw [(rdM_iff l v).2 ((rdP_iff l v).1 k)] at h; cases h
end Go.Proofs.YtobfdggdpaggeaaDoor
