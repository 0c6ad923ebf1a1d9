/- What a seat's program says at its head, read word by word: that it was cut, that a row may enter it, and how it was made. No conditions. (Asked of the kernel in one piece, a head that names many functions outgrows its memory.) -/
import Derived.Test.YtmikjgbojknlnaaBase
import Derived.JoinedOf
namespace Go.Proofs.Ytmikjgbojknlnaa
open Go.ChangeShapes Go.WideShapes Go.ChangeAt Go.RowKit Go.Joins
set_option linter.unusedVariables false
set_option maxRecDepth 100000
set_option linter.unusedSimpArgs false
set_option maxHeartbeats 1000000
theorem of_list {s : String} {l : List Char} (h : s = String.ofList l) : s.toList = l := by rw [h]; exact String.toList_ofList
theorem signs_ne : ∀ l : List Char, wordsSigns l ≠ []
  | [] => by simp [wordsSigns]
  | c :: r => by
    unfold wordsSigns
    split
    · simp
    · simp
    · split <;> simp
theorem signs_cons {c : Char} (h : ¬ c = Char.ofNat 32) (r : List Char) {w : List Char} {ws : List (List Char)} (e : wordsSigns r = w :: ws) : wordsSigns (c :: r) = (c :: w) :: ws := by
  unfold wordsSigns
  split
  · rename_i h1; simp at h1
  · rename_i h1; simp at h1; exact absurd h1.1 h
  · rename_i h1
    simp only [List.cons.injEq] at h1
    obtain ⟨rfl, rfl⟩ := h1
    rw [e]
theorem signs_front : ∀ (p r : List Char), wordsSigns (p ++ Char.ofNat 32 :: r) = wordsSigns p ++ wordsSigns r
  | [], r => by simp [wordsSigns]
  | c :: p, r => by
    have ih := signs_front p r
    by_cases h : c = Char.ofNat 32
    · subst h
      show [] :: wordsSigns (p ++ Char.ofNat 32 :: r) = ([] :: wordsSigns p) ++ wordsSigns r
      rw [ih]; rfl
    · rw [List.cons_append]
      cases hw : wordsSigns p with
      | nil => exact absurd hw (signs_ne p)
      | cons w ws =>
        rw [signs_cons h p hw, signs_cons h (p ++ Char.ofNat 32 :: r) (w := w) (ws := ws ++ wordsSigns r) (by rw [ih, hw]; rfl)]
        rfl
/-- What a program's head says first. -/
theorem head_words {P : Program} {n : Nat} {l : List Char} (h : P.initOrder = String.ofList l) (hs : (l.drop n).head? = some (Char.ofNat 32))
    (hw : (match wordsSigns (l.take n) with | [a, b, c] => a == "harness".toList && isSumSigns b && c == "cut".toList | _ => false) = true) :
    ∃ W, behindMainWord (wordsSigns P.initOrder.toList) = "cut".toList :: W := by
  rw [of_list h]
  have e : l = l.take n ++ Char.ofNat 32 :: (l.drop n).tail := by
    conv => lhs; rw [← List.take_append_drop n l]
    congr 1
    cases hd : l.drop n with
    | nil => rw [hd] at hs; simp at hs
    | cons a b => rw [hd] at hs; simp at hs; rw [hs]; rfl
  rw [e, signs_front]
  split at hw
  · rename_i a b c he
    rw [he]
    simp only [Bool.and_eq_true, beq_iff_eq] at hw
    refine ⟨wordsSigns (l.drop n).tail, ?_⟩
    show (if (a == "harness".toList || a == "ownmain".toList) && isSumSigns b then c :: wordsSigns (l.drop n).tail else a :: b :: c :: wordsSigns (l.drop n).tail) = _
    rw [if_pos (by rw [hw.1.1, hw.1.2]; rfl), hw.2]
  · cases hw
theorem strips_cut (W : List (List Char)) : stripLifts liftWords ("cut".toList :: W) = ([], "cut".toList :: W) := by
  unfold liftWords
  repeat (unfold stripLifts; rw [if_neg (by decide +kernel)])
  unfold stripLifts; rfl
theorem makes_cut {P : Program} {W : List (List Char)} (h : behindMainWord (wordsSigns P.initOrder.toList) = "cut".toList :: W) : P.make = some .cut := by
  unfold Program.make
  rw [h]
  show (if ("cut".toList == "gc".toList || "cut".toList == "spec".toList) = true then some Make.whole else if ("cut".toList == "cut".toList || ("cut".toList == "finals".toList && W.head? == some "cut".toList)) = true then some Make.cut else _) = _
  rw [if_neg (by decide +kernel), if_pos (by simp)]
theorem lifts_cut {P : Program} {W : List (List Char)} (h : behindMainWord (wordsSigns P.initOrder.toList) = "cut".toList :: W) : P.headLifts = [] ∧ P.liftsFinal = false := by
  have e : P.headLifts = [] := by
    unfold Program.headLifts
    rw [h, strips_cut]
    simp
  refine ⟨e, ?_⟩
  unfold Program.liftsFinal
  rw [h, e]
  simp
theorem enters_cut {P : Program} {W : List (List Char)} (h : behindMainWord (wordsSigns P.initOrder.toList) = "cut".toList :: W) (hl : P.laysLater = false) (hr : P.bearsReflect = false) (hd : P.doorFits [] = true) : P.mayEnter = true := by
  unfold Program.mayEnter
  rw [h]
  simp only [strips_cut, hl, hr, hd]
  simp
theorem head_cut : ∃ W, behindMainWord (wordsSigns Try.pinned.checked.prog.initOrder.toList) = "cut".toList :: W :=
  head_words (n := 76) (l := _) rfl (by kernel_rfl) (by kernel_rfl)
theorem head_enters : Try.pinned.checked.prog.mayEnter = true := by
  obtain ⟨W, h⟩ := head_cut
  exact enters_cut h (by kernel_rfl) (by kernel_rfl) (by kernel_rfl)
theorem head_lifts : Try.pinned.checked.prog.liftsFinal = false := by
  obtain ⟨W, h⟩ := head_cut
  exact (lifts_cut h).2
theorem head_makes : Try.pinned.checked.prog.make = some .cut := by
  obtain ⟨W, h⟩ := head_cut
  exact makes_cut h
theorem and_t {a b : Bool} (h : a = true) (k : b = true) : (a && b) = true := by rw [h, k]; rfl
end Go.Proofs.Ytmikjgbojknlnaa
