/- A law for regions that draw their order: a load may be taken first under a condition that speaks of the operations that have not come up yet. Conditions: as each lemma says. -/
import Derived.Test.YtmikjgbojknlnaaBase
import Derived.Deep.RegionHeld3
import Derived.StillTail
import Derived.Outline
namespace Go.Proofs.Ytmikjgbojknlnaa
open Go.RowKit
set_option linter.unusedVariables false
set_option maxRecDepth 100000
set_option linter.unusedSimpArgs false
set_option maxHeartbeats 1000000

section
variable {P : Program} {ops : Array Oper} {Q : Exit → Act → World → Prop} {md : Region.Mode} {S : Array Bool → World → Prop}

/-- In whatever order the rest comes up, S holds behind each, of what has come up by then. -/
def AnyS (P : Program) (md : Region.Mode) (ops : Array Oper) (Q : Exit → Act → World → Prop) (S : Array Bool → World → Prop) : Nat → Array Bool → Act → World → Prop
  | 0, L, a, w => Region.ready md ops L = [] ∧ Q .normal a w
  | n + 1, L, a, w => (Region.ready md ops L = [] → Q .normal a w) ∧
      ∀ j ∈ Region.ready md ops L, wpOp P ops Q j (fun b u => S (L.setIfInBounds j true) u ∧ AnyS P md ops Q S n (L.setIfInBounds j true) b u) a w

theorem AnyS.sound : ∀ (n : Nat) (L : Array Bool) (a : Act) (w : World), AnyS P md ops Q S n L a w → wpAny P md ops Q n L a w := by
  intro n
  induction n with
  | zero => intro L a w h; exact h
  | succ n ih => intro L a w h; exact ⟨h.1, fun j hj => wpOp_mono (fun b u k => ih _ _ _ k.2) (h.2 j hj)⟩

/-- Those of B wait for i, or for one another: none of them can come up before i. -/
def waitB (md : Region.Mode) (ops : Array Oper) (i : Nat) (B : List Nat) : Bool :=
  B.all fun b => match ops[b]? with
    | some o => o.after.any fun e => Region.binds md e && (e.on == i || B.contains e.on)
    | none => false
theorem waitB_not {i j : Nat} {B : List Nat} {L : Array Bool} (hb : waitB md ops i B = true) (hi : L.getD i true = false) (hB : ∀ b ∈ B, L.getD b true = false)
    (hj : j ∈ Region.ready md ops L) : j ∉ B := by
  intro m
  obtain ⟨_, o, ho, hall⟩ := mem_ready.1 hj
  have h := List.all_eq_true.1 hb j m
  rw [ho] at h
  simp only [Array.any_eq_true, Bool.and_eq_true, Bool.or_eq_true] at h
  obtain ⟨k, hk, hbi, hor⟩ := h
  have come := hall _ (Array.getElem_mem hk) hbi
  have un : L.getD (o.after[k]).on true = false := by
    rcases hor with e | e
    · rw [beq_iff_eq] at e; rw [e]; exact hi
    · exact hB _ (by simpa using e)
  rw [getD_both un] at come
  cases come

theorem AnyS.first {i : Nat} {oi : Oper} {v : Value} {T : World → Prop} (B : List Nat) (hi : ops[i]? = some oi) (hsel : ∀ (j : Nat) (o : Oper) cs b, ops[j]? = some o → o.op ≠ .select cs b)
    (hQ : ∀ c a w, Q (.panic c) (a.put oi.dst v) w → Q (.panic c) a w) (hb : waitB md ops i B = true)
    (hST : ∀ L w, (∀ b ∈ B, L.getD b true = false) → S L w → T w) (hSi : ∀ L w, S (L.setIfInBounds i true) w → S L w) :
    ∀ (n : Nat) (L : Array Bool) (a : Act) (w : World),
      (∀ j oj, ops[j]? = some oj → j ≠ i → L.getD j true = false → (∀ e ∈ oj.after, Region.binds md e = true → e.on ≠ i) → oi.apart ops oj = true) →
      i ∈ Region.ready md ops L → (∀ b ∈ B, L.getD b true = false) → YieldsIf P ops T oi v a → S (L.setIfInBounds i true) w →
      AnyS P md ops Q S n (L.setIfInBounds i true) (a.put oi.dst v) w → AnyS P md ops Q S (n + 1) L a w := by
  have step : ∀ (n : Nat) (L : Array Bool) (a : Act) (w : World), i ∈ Region.ready md ops L → (∀ b ∈ B, L.getD b true = false) → YieldsIf P ops T oi v a → S (L.setIfInBounds i true) w →
      AnyS P md ops Q S n (L.setIfInBounds i true) (a.put oi.dst v) w →
      wpOp P ops Q i (fun b u => S (L.setIfInBounds i true) u ∧ AnyS P md ops Q S n (L.setIfInBounds i true) b u) a w :=
    fun n L a w _ hB hy hS H => hy.wpOp hi (hST L w hB (hSi L w hS)) ⟨hS, H⟩
  intro n
  induction n with
  | zero =>
    intro L a w _ hr hB hy hS H
    refine ⟨fun h => (by rw [h] at hr; cases hr), fun j hj => ?_⟩
    by_cases e : j = i
    · subst e; exact step 0 L a w hr hB hy hS H
    · have k := ready_mono hj e
      rw [H.1] at k; cases k
  | succ n ih =>
    intro L a w hf hr hB hy hS H
    refine ⟨fun h => (by rw [h] at hr; cases hr), fun j hj => ?_⟩
    by_cases e : j = i
    · subst e; exact step (n + 1) L a w hr hB hy hS H
    have un : L.getD i true = false := (mem_ready.1 hr).1
    obtain ⟨hju, oj, hoj, hall⟩ := mem_ready.1 hj
    have apart := hf j oj hoj e hju (fun d hd hbd hon => by
      have c := hall d hd hbd
      rw [hon, getD_both un] at c
      cases c)
    refine wpOp_mono (fun b u k => ?_) (wpOp_putIf hoj apart (fun cs b => hsel i oi cs b hi) (fun cs b => hsel j oj cs b hoj) hQ hy (H.2 j (ready_mono hj e)))
    obtain ⟨hy', hS', H'⟩ := k
    rw [Array.setIfInBounds_comm _ _ (Ne.symm e)] at hS' H'
    refine ⟨hSi _ _ hS', ih _ b u (fun m om hm hmi hmu hno => hf m om hm hmi ?_ hno) (ready_mono hr (Ne.symm e)) (fun x hx => ?_) hy' hS' H'⟩
    · by_cases q : j = m
      · subst q; exact hju
      · rw [getD_set_ne true q] at hmu; exact hmu
    · have nx : j ≠ x := fun q => waitB_not hb un hB hj (q ▸ hx)
      rw [getD_set_ne true nx]; exact hB x hx

/-- The same, its side conditions as closed checks. -/
theorem AnyS.take {i n : Nat} {oi : Oper} {v : Value} {T : World → Prop} {L : Array Bool} {a : Act} {w : World} (B : List Nat) (hi : ops[i]? = some oi) (hs : Region.noSelect ops = true)
    (hf : Region.free md ops L i = true) (hr : (Region.ready md ops L).contains i = true) (hb : waitB md ops i B = true) (hB : (B.all fun b => !L.getD b true) = true)
    (hQ : ∀ c a w, Q (.panic c) (a.put oi.dst v) w → Q (.panic c) a w)
    (hST : ∀ L w, (∀ b ∈ B, L.getD b true = false) → S L w → T w) (hSi : ∀ L w, S (L.setIfInBounds i true) w → S L w)
    (hy : YieldsIf P ops T oi v a) (hS : S (L.setIfInBounds i true) w) (h : AnyS P md ops Q S n (L.setIfInBounds i true) (a.put oi.dst v) w) : AnyS P md ops Q S (n + 1) L a w :=
  AnyS.first B hi (Region.noSelect_spec hs) hQ hb hST hSi n L a w (Region.free_spec hi hf) (by simpa using hr) (fun b m => by simpa using List.all_eq_true.1 hB b m) hy hS h

/-- One of those that may come up comes up. -/
theorem AnyS.comes {i n : Nat} {o : Oper} {L : Array Bool} {a : Act} {w : World} (ho : ops[i]? = some o)
    (h : ∀ K : Act → World → Prop, Shut (∀ b u, S (L.setIfInBounds i true) u → AnyS P md ops Q S n (L.setIfInBounds i true) b u → K b u) →
      if Region.wanted o (yielded ops a.tmps) = true then Oper.wp P o a w K Q else K (a.put o.dst undef) w) :
    wpOp P ops Q i (fun b u => S (L.setIfInBounds i true) u ∧ AnyS P md ops Q S n (L.setIfInBounds i true) b u) a w :=
  wpOp_step ho (fun K hK => h K (fun b u s r => hK b u ⟨s, r⟩))
theorem AnyS.one {i n : Nat} {L : Array Bool} {a : Act} {w : World} (hr : Region.ready md ops L = [i])
    (h : wpOp P ops Q i (fun b u => S (L.setIfInBounds i true) u ∧ AnyS P md ops Q S n (L.setIfInBounds i true) b u) a w) : AnyS P md ops Q S (n + 1) L a w :=
  ⟨fun e => (by rw [hr] at e; cases e), fun j hj => (by rw [hr] at hj; simp at hj; subst hj; exact h)⟩
theorem AnyS.two {i j n : Nat} {L : Array Bool} {a : Act} {w : World} (hr : Region.ready md ops L = [i, j])
    (h : wpOp P ops Q i (fun b u => S (L.setIfInBounds i true) u ∧ AnyS P md ops Q S n (L.setIfInBounds i true) b u) a w)
    (k : wpOp P ops Q j (fun b u => S (L.setIfInBounds j true) u ∧ AnyS P md ops Q S n (L.setIfInBounds j true) b u) a w) : AnyS P md ops Q S (n + 1) L a w :=
  ⟨fun e => (by rw [hr] at e; cases e), fun m hm => (by rw [hr] at hm; simp at hm; rcases hm with rfl | rfl; exact h; exact k)⟩
theorem AnyS.done {L : Array Bool} {a : Act} {w : World} (hr : Region.ready md ops L = []) (h : Q .normal a w) : ∀ n, AnyS P md ops Q S n L a w
  | 0 => ⟨hr, h⟩
  | _ + 1 => ⟨fun _ => h, (by rw [hr]; simp)⟩
theorem AnyS.region {id : Nat} {a : Act} {w : World} (hm : P.follows .mixedOrders = true) (h : AnyS P .any ops Q S ops.size (Array.replicate ops.size false) a w.drew) :
    (Code.region id ops true).wp P Q a w := wp_region_any hm (AnyS.sound _ _ _ _ h)
end
/-- What holds as long as one operation has not come up. -/
def OneS (s : Nat) (C : World → Prop) (L : Array Bool) (u : World) : Prop := L.getD s true = false → C u
theorem OneS.less {s i : Nat} {C : World → Prop} {L : Array Bool} {u : World} (h : i ≠ s) (k : OneS s C (L.setIfInBounds i true) u) : OneS s C L u := by
  unfold OneS at k ⊢; rw [getD_set_ne true h] at k; exact k
end Go.Proofs.Ytmikjgbojknlnaa
