/- A law for regions that draw their order among calls and new boxes: what holds behind all of them does not hang on the order. Conditions: as each lemma says. -/
import Derived.Test.YtmikjgbojknlnaaAnyS
namespace Go.Proofs.Ytmikjgbojknlnaa
open Go.RowKit
set_option linter.unusedVariables false
set_option maxRecDepth 100000
set_option linter.unusedSimpArgs false
set_option maxHeartbeats 1000000

section
variable {P : Program} {ops : Array Oper} {Q : Exit → Act → World → Prop} {md : Region.Mode} {S : Array Bool → World → Prop}

/-- The list of what has come up, where those of M that D names have come up as well. -/
def setL (D : Nat → Bool) : List Nat → Array Bool → Array Bool
  | [], L => L
  | j :: M, L => setL D M (if D j = true then L.setIfInBounds j true else L)
theorem setL_get (D : Nat → Bool) : ∀ (M : List Nat) (L : Array Bool) (i : Nat), (setL D M L)[i]? = if i ∈ M ∧ D i = true then (L[i]?).map (fun _ => true) else L[i]? := by
  intro M
  induction M with
  | nil => intro L i; simp [setL]
  | cons j M ih =>
    intro L i
    rw [setL, ih]
    by_cases dj : D j = true
    · rw [if_pos dj]
      by_cases e : j = i
      · subst e
        simp only [Array.getElem?_setIfInBounds_self, dj, and_true, List.mem_cons, true_or, if_true]
        by_cases lt : j < L.size
        · simp [lt]
        · simp [lt]
      · rw [Array.getElem?_setIfInBounds_ne e]
        simp [Ne.symm e]
    · rw [if_neg dj]
      by_cases e : i = j
      · subst e; simp [dj]
      · simp [e]
def updB (D : Nat → Bool) (j : Nat) : Nat → Bool := fun i => if i = j then true else D i
theorem setL_step {D : Nat → Bool} {M : List Nat} {L : Array Bool} {j : Nat} (hj : j ∈ M) : (setL D M L).setIfInBounds j true = setL (updB D j) M L := by
  apply Array.ext_getElem?
  intro i
  rw [setL_get]
  by_cases e : j = i
  · subst e
    have z : (setL D M L).size = L.size := by
      have a := setL_get D M L
      apply Nat.le_antisymm
      · apply Nat.le_of_not_lt; intro h
        have := a L.size
        rw [Array.getElem?_eq_getElem h, Array.getElem?_eq_none (Nat.le_refl _)] at this
        simp at this
      · apply Nat.le_of_not_lt; intro h
        have := a (setL D M L).size
        rw [Array.getElem?_eq_none (Nat.le_refl _), Array.getElem?_eq_getElem h] at this
        split at this <;> simp at this
    rw [Array.getElem?_setIfInBounds_self, z]
    simp only [updB, if_true, hj, and_self]
    by_cases lt : j < L.size
    · simp [lt]
    · simp [lt]
  · rw [Array.getElem?_setIfInBounds_ne e, setL_get]
    have : updB D j i = D i := by unfold updB; rw [if_neg (Ne.symm e)]
    rw [this]
theorem setL_same {D D' : Nat → Bool} {M : List Nat} {L : Array Bool} (h : ∀ j ∈ M, D j = D' j) : setL D M L = setL D' M L := by
  apply Array.ext_getElem?
  intro i
  rw [setL_get, setL_get]
  by_cases e : i ∈ M
  · rw [h i e]
  · simp [e]
theorem setL_none {D : Nat → Bool} {M : List Nat} {L : Array Bool} (h : ∀ j ∈ M, D j = false) : setL D M L = L := by
  apply Array.ext_getElem?
  intro i
  rw [setL_get]
  by_cases e : i ∈ M
  · simp [h i e]
  · simp [e]

/-- An act whose slots ds hold what t says. -/
def putA (t : Nat → Value) : List Nat → Act → Act
  | [], a => a
  | d :: ds, a => putA t ds (a.put (some d) (t d))
theorem putA_rest (t : Nat → Value) : ∀ (ds : List Nat) (a : Act), putA t ds a = { a with tmps := (putA t ds a).tmps } := by
  intro ds
  induction ds with
  | nil => intro a; rfl
  | cons d ds ih => intro a; rw [putA, ih]; rfl
theorem putA_get (t : Nat → Value) : ∀ (ds : List Nat) (a : Act) (i : Nat), (putA t ds a).tmps[i]? = if i ∈ ds then (a.tmps[i]?).map (fun _ => t i) else a.tmps[i]? := by
  intro ds
  induction ds with
  | nil => intro a i; simp [putA]
  | cons d ds ih =>
    intro a i
    rw [putA, ih]
    show (if i ∈ ds then ((a.tmps.setIfInBounds d (t d))[i]?).map (fun _ => t i) else (a.tmps.setIfInBounds d (t d))[i]?) = _
    by_cases e : d = i
    · subst e
      rw [Array.getElem?_setIfInBounds_self]
      simp only [List.mem_cons, true_or, if_true]
      by_cases lt : d < a.tmps.size
      · simp [lt]
      · simp [lt]
    · rw [Array.getElem?_setIfInBounds_ne e]
      simp [Ne.symm e]
def updV (t : Nat → Value) (d : Nat) (v : Value) : Nat → Value := fun i => if i = d then v else t i
theorem putA_size (t : Nat → Value) : ∀ (ds : List Nat) (a : Act), (putA t ds a).tmps.size = a.tmps.size := by
  intro ds
  induction ds with
  | nil => intro a; rfl
  | cons d ds ih => intro a; rw [putA, ih]; simp [Act.put]
theorem putA_step {t : Nat → Value} {ds : List Nat} {a : Act} {d : Nat} (v : Value) (hd : d ∈ ds) : (putA t ds a).put (some d) v = putA (updV t d v) ds a := by
  rw [putA_rest t ds a, putA_rest (updV t d v) ds a]
  show ({ a with tmps := (putA t ds a).tmps.setIfInBounds d v } : Act) = _
  congr 1
  apply Array.ext_getElem?
  intro i
  rw [putA_get]
  by_cases e : d = i
  · subst e
    rw [Array.getElem?_setIfInBounds_self, putA_size]
    simp only [hd, if_true, updV]
    by_cases lt : d < a.tmps.size
    · simp [lt]
    · simp [lt]
  · rw [Array.getElem?_setIfInBounds_ne e, putA_get]
    have : updV t d v i = t i := by unfold updV; rw [if_neg (Ne.symm e)]
    rw [this]
theorem putA_same (ds : List Nat) (a : Act) : putA (fun d => (a.tmps[d]?).getD undef) ds a = a := by
  have r := putA_rest (fun d => (a.tmps[d]?).getD undef) ds a
  rw [r]
  have : (putA (fun d => (a.tmps[d]?).getD undef) ds a).tmps = a.tmps := by
    apply Array.ext_getElem?
    intro i
    rw [putA_get]
    split
    · cases a.tmps[i]? <;> rfl
    · rfl
  rw [this]

/-- All parts of a list. -/
def partsL : List Nat → List (List Nat)
  | [] => [[]]
  | j :: M => partsL M ++ (partsL M).map (j :: ·)
theorem parts_filter (p : Nat → Bool) : ∀ M : List Nat, M.filter p ∈ partsL M := by
  intro M
  induction M with
  | nil => simp [partsL]
  | cons j M ih =>
    rw [List.filter_cons, partsL, List.mem_append]
    split
    · right; exact List.mem_map.2 ⟨_, ih, rfl⟩
    · left; exact ih
/-- Does j wait for i? -/
def latDep (md : Region.Mode) (ops : Array Oper) (i j : Nat) : Bool :=
  match ops[j]? with
  | some o => o.after.any fun e => Region.binds md e && e.on == i
  | none => false
/-- Wherever some of M have not come up, something can come up, and nothing but those of M. -/
def latCheck (md : Region.Mode) (ops : Array Oper) (L : Array Bool) (M : List Nat) : Bool :=
  (partsL M).all fun A => M.all A.contains || (!(A.all fun j => M.all fun i => !latDep md ops i j || A.contains i)) || (!(Region.ready md ops (setL A.contains M L)).isEmpty && (Region.ready md ops (setL A.contains M L)).all M.contains)
theorem left_less {D : Nat → Bool} {j : Nat} : ∀ {M : List Nat}, M.Nodup → j ∈ M → D j = false → (M.filter fun i => !updB D j i).length + 1 = (M.filter fun i => !D i).length := by
  intro M
  induction M with
  | nil => intro _ h; cases h
  | cons i M ih =>
    intro nd hj hd
    obtain ⟨ni, nd⟩ := List.nodup_cons.1 nd
    by_cases e : i = j
    · subst e
      have same : (M.filter fun k => !updB D i k) = M.filter fun k => !D k := by
        apply List.filter_congr
        intro k hk
        have : k ≠ i := fun q => ni (q ▸ hk)
        unfold updB; rw [if_neg this]
      rw [List.filter_cons, List.filter_cons]
      have u : updB D i i = true := if_pos rfl
      simp [u, hd, same]
    · have hm : j ∈ M := by
        rcases List.mem_cons.1 hj with q | q
        · exact absurd q.symm e
        · exact q
      have := ih nd hm hd
      rw [List.filter_cons, List.filter_cons]
      have u : updB D j i = D i := if_neg e
      rw [u]
      split
      · simpa using this
      · exact this

theorem AnyS.lat {a0 : Act} {L0 : Array Bool} (M ds : List Nat) (J : (Nat → Bool) → (Nat → Value) → World → Prop) {n : Nat}
    (hL : ∀ j ∈ M, L0.getD j true = false) (hn : M.Nodup) (chk : latCheck md ops L0 M = true)
    (hS : ∀ D t u L, J D t u → S L u)
    (hstep : ∀ D t u j, j ∈ M → D j = false → (∀ i, latDep md ops i j = true → i ∈ M → D i = true) → J D t u →
      wpOp P ops Q j (fun b u' => ∃ v, ∃ d ∈ ds, b = (putA t ds a0).put (some d) v ∧ J (updB D j) (updV t d v) u') (putA t ds a0) u)
    (hend : ∀ t u, J (fun j => M.contains j) t u → AnyS P md ops Q S n (setL (fun _ => true) M L0) (putA t ds a0) u) :
    ∀ (k : Nat) (D : Nat → Bool) (t : Nat → Value) (u : World), (∀ j, D j = true → j ∈ M) → (∀ j, D j = true → ∀ i ∈ M, latDep md ops i j = true → D i = true) → (M.filter fun i => !D i).length = k → J D t u →
      AnyS P md ops Q S (n + k) (setL D M L0) (putA t ds a0) u := by
  intro k
  induction k with
  | zero =>
    intro D t u hD hcl hk hJ
    have all : ∀ j ∈ M, D j = true := by
      intro j hj
      cases d : D j
      · have : j ∈ M.filter fun i => !D i := List.mem_filter.2 ⟨hj, by simp [d]⟩
        rw [List.eq_nil_of_length_eq_zero hk] at this
        cases this
      · rfl
    have e : D = fun j => M.contains j := by
      funext j
      cases d : D j
      · symm; rw [Bool.eq_false_iff]; intro h
        rw [all j (by simpa using h)] at d; cases d
      · have := hD j d; simp [this]
    have s : setL D M L0 = setL (fun _ => true) M L0 := setL_same all
    rw [s]
    exact hend t u (e ▸ hJ)
  | succ k ih =>
    intro D t u hD hcl hk hJ
    have c := List.all_eq_true.1 chk _ (parts_filter D M)
    have some_left : ∃ j ∈ M, D j = false := by
      cases f : M.filter fun i => !D i with
      | nil => rw [f] at hk; cases hk
      | cons j r =>
        have : j ∈ M.filter fun i => !D i := by rw [f]; simp
        obtain ⟨a, b⟩ := List.mem_filter.1 this
        exact ⟨j, a, by simpa using b⟩
    have sm : setL (M.filter D).contains M L0 = setL D M L0 := by
      apply setL_same
      intro j hj
      cases d : D j
      · rw [Bool.eq_false_iff]; intro h
        have := List.mem_filter.1 (show j ∈ M.filter D by simpa using h)
        rw [d] at this; cases this.2
      · have : j ∈ M.filter D := List.mem_filter.2 ⟨hj, d⟩
        simp [this]
    rw [sm] at c
    have notall : M.all (M.filter D).contains = false := by
      rw [Bool.eq_false_iff]
      intro h
      obtain ⟨j, hj, dj⟩ := some_left
      have := List.all_eq_true.1 h j hj
      have m := (List.mem_filter.1 (show j ∈ M.filter D by simpa using this)).2
      rw [dj] at m; cases m
    have closed : ((M.filter D).all fun j => M.all fun i => !latDep md ops i j || (M.filter D).contains i) = true := by
      rw [List.all_eq_true]
      intro j hj
      rw [List.all_eq_true]
      intro i hi
      cases q : latDep md ops i j
      · rfl
      · have : i ∈ M.filter D := List.mem_filter.2 ⟨hi, hcl j (List.mem_filter.1 hj).2 i hi q⟩
        simp [this]
    have c' : (!(Region.ready md ops (setL D M L0)).isEmpty) = true ∧ ((Region.ready md ops (setL D M L0)).all M.contains) = true := by
      rw [notall, closed] at c
      simpa using c
    refine ⟨fun e => ?_, fun j hj => ?_⟩
    · rw [e] at c'; simp at c'
    · have jM : j ∈ M := by simpa using List.all_eq_true.1 c'.2 j hj
      obtain ⟨un, o, ho, hall⟩ := mem_ready.1 hj
      have Lj : ∀ i ∈ M, L0[i]? = some false := by
        intro i hi
        have h := hL i hi
        rw [Array.getD_eq_getD_getElem?] at h
        cases q : L0[i]? with
        | none => rw [q] at h; cases h
        | some b => rw [q] at h; simp at h; rw [h]
      have dj : D j = false := by
        cases d : D j
        · rfl
        · rw [Array.getD_eq_getD_getElem?, setL_get, if_pos ⟨jM, d⟩, Lj j jM] at un
          cases un
      have deps : ∀ i, latDep md ops i j = true → i ∈ M → D i = true := by
        intro i hd hi
        unfold latDep at hd
        rw [ho] at hd
        simp only [Array.any_eq_true, Bool.and_eq_true] at hd
        obtain ⟨x, hx, hb, hon⟩ := hd
        have come := hall _ (Array.getElem_mem hx) hb
        have e : (o.after[x]).on = i := by simpa using hon
        rw [e, Array.getD_eq_getD_getElem?, setL_get] at come
        cases d : D i
        · rw [if_neg (by simp [d]), Lj i hi] at come; cases come
        · rfl
      refine wpOp_mono (fun b u' hb => ?_) (hstep D t u j jM dj deps hJ)
      obtain ⟨v, d, hd, rfl, hJ'⟩ := hb
      rw [setL_step jM, putA_step v hd]
      refine ⟨hS _ _ _ _ hJ', ih _ _ _ (fun i hi => ?_) (fun i hi m hm hd' => ?_) ?_ hJ'⟩
      · unfold updB at hi
        split at hi
        · rename_i q; rw [q]; exact jM
        · exact hD i hi
      · show updB D j m = true
        unfold updB
        by_cases e : m = j
        · rw [if_pos e]
        · rw [if_neg e]
          unfold updB at hi
          by_cases e2 : i = j
          · rw [e2] at hd'; exact deps m hd' hm
          · rw [if_neg e2] at hi; exact hcl i hi m hm hd'
      · have := left_less (D := D) hn jM dj
        omega

/-- A call of a region: its place, its slot, what it yields. -/
abbrev LatC : Type := Nat × Nat × Value
def LatC.op (c : LatC) : Nat := c.1
def LatC.dst (c : LatC) : Nat := c.2.1
def LatC.val (c : LatC) : Value := c.2.2
/-- A new box of a region: its place, its slot, its cells, their type. -/
abbrev LatB : Type := Nat × Nat × List Value × TypeId
def LatB.op (c : LatB) : Nat := c.1
def LatB.dst (c : LatB) : Nat := c.2.1
def LatB.zs (c : LatB) : List Value := c.2.2.1
def LatB.ty (c : LatB) : TypeId := c.2.2.2
/-- What holds while some calls have been carried out and some boxes have been laid. -/
def LatJ (cs : List LatC) (bs : List LatB) (K : World → Prop) (lo : Nat) (D : Nat → Bool) (t : Nat → Value) (u : World) : Prop :=
  K u ∧ lo ≤ u.heap.size ∧ (∀ c ∈ cs, D c.op = true → t c.dst = c.val) ∧ ∃ g : Nat → Nat,
    (∀ b ∈ bs, D b.op = true → t b.dst = .pointer (some ⟨g b.op, 0, none⟩) ∧ lo ≤ g b.op ∧ g b.op < u.heap.size ∧ ∀ i v, b.zs[i]? = some v → Own u (g b.op) i v) ∧
    (∀ b ∈ bs, ∀ b' ∈ bs, D b.op = true → D b'.op = true → b.op ≠ b'.op → g b.op ≠ g b'.op)
/-- Are the numbers of a list apart? -/
def nodB : List Nat → Bool
  | [] => true
  | a :: l => !l.contains a && nodB l
theorem nodB_spec : ∀ {l : List Nat}, nodB l = true → l.Nodup := by
  intro l
  induction l with
  | nil => intro _; exact List.nodup_nil
  | cons a l ih =>
    intro h
    simp only [nodB, Bool.and_eq_true] at h
    exact List.nodup_cons.2 ⟨by simpa using h.1, ih h.2⟩
theorem nodup_inj {α : Type} {f : α → Nat} : ∀ {l : List α}, (l.map f).Nodup → ∀ {a b : α}, a ∈ l → b ∈ l → f a = f b → a = b := by
  intro l
  induction l with
  | nil => intro _ a b h; cases h
  | cons x l ih =>
    intro nd a b ha hb e
    rw [List.map_cons, List.nodup_cons] at nd
    rcases List.mem_cons.1 ha with ea | ha'
    · rcases List.mem_cons.1 hb with eb | hb'
      · rw [ea, eb]
      · rw [ea] at e; exact absurd (List.mem_map.2 ⟨b, hb', e.symm⟩) nd.1
    · rcases List.mem_cons.1 hb with eb | hb'
      · rw [eb] at e; exact absurd (List.mem_map.2 ⟨a, ha', e⟩) nd.1
      · exact ih nd.2 ha' hb' e
theorem own_new {u : World} {zs : List Value} {ty : TypeId} {i : Nat} {v : Value} (h : zs[i]? = some v) : Own (u.alloc (.cells zs.toArray ty)) u.heap.size i v :=
  ⟨by simp [go_sem, h], by simp [go_sem]⟩
theorem AnyS.std {a0 : Act} {L0 : Array Bool} {u0 : World} (cs : List LatC) (bs : List LatB) (K : World → Prop) (lo : Nat) {n : Nat}
    (KB : ∀ u u', K u → Below u.heap.size u u' → K u')
    (hL : ((cs.map (·.op) ++ bs.map (·.op)).all fun j => !L0.getD j true) = true)
    (hn' : nodB (cs.map (·.op) ++ bs.map (·.op)) = true) (hd' : nodB (cs.map (·.dst) ++ bs.map (·.dst)) = true)
    (chk : latCheck md ops L0 (cs.map (·.op) ++ bs.map (·.op)) = true)
    (hS : ∀ u L, K u → S L u) (K0 : K u0) (h0 : lo ≤ u0.heap.size)
    (hc : ∀ c ∈ cs, ∀ t u, K u → lo ≤ u.heap.size → (∀ c' ∈ cs, latDep md ops c'.op c.op = true → t c'.dst = c'.val) →
      wpOp P ops Q c.op (fun b u' => b = (putA t (cs.map (·.dst) ++ bs.map (·.dst)) a0).put (some c.dst) c.val ∧ Below u.heap.size u u') (putA t (cs.map (·.dst) ++ bs.map (·.dst)) a0) u)
    (hb : ∀ b ∈ bs, ∀ t u, K u →
      wpOp P ops Q b.op (fun e u' => e = (putA t (cs.map (·.dst) ++ bs.map (·.dst)) a0).put (some b.dst) (.pointer (some ⟨u.heap.size, 0, none⟩)) ∧ u' = u.alloc (.cells b.zs.toArray b.ty)) (putA t (cs.map (·.dst) ++ bs.map (·.dst)) a0) u)
    (hend : ∀ t u (g : Nat → Nat), K u → lo ≤ u.heap.size → (∀ c ∈ cs, t c.dst = c.val) →
      (∀ b ∈ bs, t b.dst = .pointer (some ⟨g b.op, 0, none⟩) ∧ lo ≤ g b.op ∧ g b.op < u.heap.size ∧ ∀ i v, b.zs[i]? = some v → Own u (g b.op) i v) →
      (∀ b ∈ bs, ∀ b' ∈ bs, b.op ≠ b'.op → g b.op ≠ g b'.op) →
      AnyS P md ops Q S n (setL (fun _ => true) (cs.map (·.op) ++ bs.map (·.op)) L0) (putA t (cs.map (·.dst) ++ bs.map (·.dst)) a0) u) :
    AnyS P md ops Q S (n + (cs.length + bs.length)) L0 a0 u0 := by
  have hn := nodB_spec hn'
  have hd := nodB_spec hd'
  have nc := (List.nodup_append.1 hn).1
  have nb := (List.nodup_append.1 hn).2.1
  have nx := (List.nodup_append.1 hn).2.2
  have dc := (List.nodup_append.1 hd).1
  have db := (List.nodup_append.1 hd).2.1
  have dx := (List.nodup_append.1 hd).2.2
  have oc : ∀ c ∈ cs, c.op ∈ cs.map (·.op) := fun c h => List.mem_map.2 ⟨c, h, rfl⟩
  have ob : ∀ b ∈ bs, b.op ∈ bs.map (·.op) := fun c h => List.mem_map.2 ⟨c, h, rfl⟩
  have tc : ∀ c ∈ cs, c.dst ∈ cs.map (·.dst) := fun c h => List.mem_map.2 ⟨c, h, rfl⟩
  have tb : ∀ b ∈ bs, b.dst ∈ bs.map (·.dst) := fun c h => List.mem_map.2 ⟨c, h, rfl⟩
  have z := AnyS.lat (md := md) (P := P) (Q := Q) (S := S) (a0 := a0) (L0 := L0) (n := n) (cs.map (·.op) ++ bs.map (·.op)) (cs.map (·.dst) ++ bs.map (·.dst)) (LatJ cs bs K lo)
    (fun j hj => by simpa using List.all_eq_true.1 hL j hj) hn chk (fun D t u L h => hS u L h.1) ?_ ?_ (cs.length + bs.length) (fun _ => false) (fun d => (a0.tmps[d]?).getD undef) u0 (by simp) (by simp) ?_ ⟨K0, h0, by simp, fun _ => 0, by simp, by simp⟩
  · rw [setL_none (fun _ _ => rfl), putA_same] at z
    exact z
  · intro D t u j hj dj deps hJ
    obtain ⟨hK, hlo, hcs, g, hbs, hne⟩ := hJ
    rcases List.mem_append.1 hj with hj | hj
    · obtain ⟨c, hm, rfl⟩ := List.mem_map.1 hj
      refine wpOp_mono (fun b u' hh => ?_) (hc c hm t u hK hlo (fun c' m q => hcs c' m (deps _ q (List.mem_append.2 (.inl (oc c' m))))))
      obtain ⟨eb, hbel⟩ := hh
      refine ⟨c.val, c.dst, List.mem_append.2 (.inl (tc c hm)), eb, KB _ _ hK hbel, Nat.le_trans hlo hbel.size, fun c' m q => ?_, g, fun b' m q => ?_, fun b' m b'' m' q q' ne => ?_⟩
      · by_cases e : c'.op = c.op
        · have := nodup_inj nc m hm e
          subst this
          exact if_pos rfl
        · have e' : ¬ c'.dst = c.dst := fun h => e (by rw [nodup_inj dc m hm h])
          show (if c'.dst = c.dst then c.val else t c'.dst) = c'.val
          rw [if_neg e']
          refine hcs c' m ?_
          unfold updB at q; rwa [if_neg e] at q
      · have e : ¬ b'.op = c.op := fun h => nx _ (oc c hm) _ (ob b' m) h.symm
        have e' : ¬ b'.dst = c.dst := fun h => dx _ (tc c hm) _ (tb b' m) h.symm
        unfold updB at q; rw [if_neg e] at q
        obtain ⟨q1, q2, q3, q4⟩ := hbs b' m q
        refine ⟨?_, q2, Nat.lt_of_lt_of_le q3 hbel.size, fun i v h => own_kept hbel (q4 i v h)⟩
        show (if b'.dst = c.dst then c.val else t b'.dst) = _
        rw [if_neg e']; exact q1
      · have e : ¬ b'.op = c.op := fun h => nx _ (oc c hm) _ (ob b' m) h.symm
        have e2 : ¬ b''.op = c.op := fun h => nx _ (oc c hm) _ (ob b'' m') h.symm
        unfold updB at q q'; rw [if_neg e] at q; rw [if_neg e2] at q'
        exact hne b' m b'' m' q q' ne
    · obtain ⟨b, hm, rfl⟩ := List.mem_map.1 hj
      refine wpOp_mono (fun e u' hh => ?_) (hb b hm t u hK)
      obtain ⟨ee, rfl⟩ := hh
      have hbel : Below u.heap.size u (u.alloc (.cells b.zs.toArray b.ty)) := (Below.refl _ _).alloc (Nat.le_refl _) _
      have sz : (u.alloc (.cells b.zs.toArray b.ty)).heap.size = u.heap.size + 1 := by simp [go_sem]
      refine ⟨.pointer (some ⟨u.heap.size, 0, none⟩), b.dst, List.mem_append.2 (.inr (tb b hm)), ee, KB _ _ hK hbel, Nat.le_trans hlo hbel.size, fun c' m q => ?_, fun i => if i = b.op then u.heap.size else g i, fun b' m q => ?_, fun b' m b'' m' q q' ne => ?_⟩
      · have e1 : ¬ c'.op = b.op := fun h => nx _ (oc c' m) _ (ob b hm) h
        have e' : ¬ c'.dst = b.dst := fun h => dx _ (tc c' m) _ (tb b hm) h
        unfold updB at q; rw [if_neg e1] at q
        show (if c'.dst = b.dst then _ else t c'.dst) = c'.val
        rw [if_neg e']; exact hcs c' m q
      · by_cases e1 : b'.op = b.op
        · have := nodup_inj nb m hm e1
          subst this
          refine ⟨?_, ?_, ?_, fun i v h => ?_⟩
          · simp [updV]
          · simpa using hlo
          · simp [sz]
          · have := own_new (u := u) (ty := b'.ty) h
            simpa using this
        · have e' : ¬ b'.dst = b.dst := fun h => e1 (by rw [nodup_inj db m hm h])
          unfold updB at q; rw [if_neg e1] at q
          obtain ⟨q1, q2, q3, q4⟩ := hbs b' m q
          refine ⟨?_, ?_, ?_, fun i v h => ?_⟩
          · simpa [updV, e', e1] using q1
          · simpa [e1] using q2
          · have := Nat.lt_succ_of_lt q3; simp only [if_neg e1, sz]; exact this
          · simp only [if_neg e1]; exact own_alloc (q4 i v h)
      · show (if b'.op = b.op then u.heap.size else g b'.op) ≠ (if b''.op = b.op then u.heap.size else g b''.op)
        by_cases e1 : b'.op = b.op
        · by_cases e2 : b''.op = b.op
          · exact absurd (e1.trans e2.symm) ne
          · rw [if_pos e1, if_neg e2]
            unfold updB at q'; rw [if_neg e2] at q'
            exact Nat.ne_of_gt (hbs b'' m' q').2.2.1
        · unfold updB at q; rw [if_neg e1] at q
          by_cases e2 : b''.op = b.op
          · rw [if_neg e1, if_pos e2]
            exact Nat.ne_of_lt (hbs b' m q).2.2.1
          · unfold updB at q'; rw [if_neg e2] at q'
            rw [if_neg e1, if_neg e2]
            exact hne b' m b'' m' q q' ne
  · intro t u hJ
    obtain ⟨hK, hlo, hcs, g, hbs, hne⟩ := hJ
    have inC : ∀ c ∈ cs, (cs.map (·.op) ++ bs.map (·.op)).contains c.op = true := fun c m => by rw [List.contains_iff_mem]; exact List.mem_append.2 (.inl (oc c m))
    have inB : ∀ b ∈ bs, (cs.map (·.op) ++ bs.map (·.op)).contains b.op = true := fun c m => by rw [List.contains_iff_mem]; exact List.mem_append.2 (.inr (ob c m))
    exact hend t u g hK hlo (fun c m => hcs c m (inC c m)) (fun b m => hbs b m (inB b m)) (fun b m b' m' ne => hne b m b' m' (inB b m) (inB b' m') ne)
  · have all : ∀ l : List Nat, (l.filter fun _ => !false).length = l.length := fun l => by induction l with
      | nil => rfl
      | cons x l ih => simp at ih ⊢
    rw [all]; simp
theorem AnyS.enter {K : World → Prop} {s : Nat} {id : Nat} {a : Act} {w : World} (hm : P.follows .mixedOrders = true) (h0 : K w.drew) (h : ∀ u, K u → AnyS P .any ops Q (OneS s K) ops.size (Array.replicate ops.size false) a u) :
    (Code.region id ops true).wp P Q a w := AnyS.region hm (h _ h0)
end
/-- The cells of a row, from one on. -/
def RowAt (u : World) (b k : Nat) (vs : List Value) : Prop := ∀ i v, vs[i]? = some v → Own u b (k + i) v
theorem row_nil {u : World} {b k : Nat} : RowAt u b k [] := fun i v h => by simp at h
theorem row_cons {u : World} {b k : Nat} {v : Value} {vs : List Value} (h : Own u b k v) (t : RowAt u b (k + 1) vs) : RowAt u b k (v :: vs) := by
  intro i x hx
  cases i with
  | zero => simp at hx; subst hx; exact h
  | succ i => have := t i x (by simpa using hx); rwa [Nat.add_assoc, Nat.add_comm 1 i] at this
theorem RowAt.kept {u u' : World} {b k : Nat} {vs : List Value} (h : RowAt u b k vs) (hb : Below u.heap.size u u') : RowAt u' b k vs := fun i v e => own_kept hb (h i v e)
theorem RowAt.alloc {u : World} {o : Obj} {b k : Nat} {vs : List Value} (h : RowAt u b k vs) : RowAt (u.alloc o) b k vs := fun i v e => own_alloc (h i v e)
theorem RowAt.drew {u : World} {b k : Nat} {vs : List Value} (h : RowAt u b k vs) : RowAt u.drew b k vs := fun i v e => own_drew (h i v e)
theorem RowAt.lt {u : World} {b k : Nat} {v : Value} {vs : List Value} (h : RowAt u b k (v :: vs)) : b < u.heap.size := World.block_lt_of_cell? _ _ (h 0 v rfl).1
theorem RowAt.far {u : World} {p : Addr} {x : Value} {b k : Nat} {vs : List Value} (n : p.block ≠ b) (h : RowAt u b k vs) : RowAt (u.setCell p x) b k vs := fun i v e => own_far n (h i v e)
theorem row_new {u : World} {b : Nat} {vs : List Value} {ty : TypeId} (e : b = u.heap.size) : RowAt (u.alloc (.cells vs.toArray ty)) b 0 vs := fun i v h => by rw [e, Nat.zero_add]; exact own_new h
theorem RowAt.alloc2 {U u : World} {o1 o2 : Obj} (e : U = (u.alloc o1).alloc o2) {b k : Nat} {vs : List Value} (h : RowAt u b k vs) : RowAt U b k vs := by rw [e]; exact h.alloc.alloc
theorem RowAt.set2 {U u : World} {p q : Addr} {x y : Value} (e : U = (u.setCell p x).setCell q y) {b k : Nat} {vs : List Value} (np : p.block ≠ b) (nq : q.block ≠ b) (h : RowAt u b k vs) : RowAt U b k vs := by rw [e]; exact (h.far np).far nq
theorem RowAt.at {u : World} {b : Nat} {vs : List Value} (h : RowAt u b 0 vs) (i : Nat) {v : Value} (e : vs[i]? = some v) : Own u b i v := by have := h i v e; rwa [Nat.zero_add] at this
theorem ownS {w : World} {b o : Nat} {v : Value} (h : Own w b o v := by repeat (first | (with_reducible assumption) | (with_reducible refine own_next (by decide) ?_) | (with_reducible refine own_far (by first | (dsimp only; omega) | (simp; done) | (simp; omega)) ?_) | (with_reducible refine own_kept (by assumption) ?_) | (with_reducible refine own_drew ?_) | (with_reducible refine own_drewN ?_) | (refine ⟨?_, ?_⟩ <;> simp [go_sem]; done) | (with_reducible refine own_alloc ?_))) : Own w b o v := h
theorem belS {B : Nat} {a w : World} (h : Below B a w := by repeat (first | (with_reducible assumption) | (with_reducible exact Below.refl _ _) | (with_reducible refine Below.drew ?_) | (with_reducible refine below_dn ?_ _) | (with_reducible refine Below.setCell ?_ (by first | omega | (dsimp only; omega) | (simp; done) | (simp; omega)) _) | (with_reducible refine Below.alloc ?_ (by first | omega | (simp; done) | (simp; omega)) _) | (refine Below.trans ?_ (Below.mono (by assumption) (by first | omega | (simp; done) | (simp; omega)))))) : Below B a w := h
/-- What stays while a region goes on: rows of cells, and what was there before the call. -/
def RowsK (w : World) (rows : List (Nat × List Value)) (E : World → Prop) (u : World) : Prop := (∀ r ∈ rows, RowAt u r.1 0 r.2) ∧ E u ∧ Below w.heap.size w u
theorem RowsK.kept {w u u' : World} {rows : List (Nat × List Value)} {E : World → Prop} (EB : ∀ u u', E u → Below u.heap.size u u' → E u') (h : RowsK w rows E u) (hb : Below u.heap.size u u') : RowsK w rows E u' :=
  ⟨fun r m => (h.1 r m).kept hb, EB _ _ h.2.1 hb, h.2.2.trans (hb.mono h.2.2.size)⟩
theorem RowsK.row {w u : World} {rows : List (Nat × List Value)} {E : World → Prop} (h : RowsK w rows E u) {b : Nat} {vs : List Value} (m : (b, vs) ∈ rows) : RowAt u b 0 vs := h.1 _ m
end Go.Proofs.Ytmikjgbojknlnaa
