/- A contract of the model's text of a number. Conditions: the number is an int64. -/
import Derived.Test.YtohidondlndkhaaDoorBase
import Derived.Test.YtohidondlndkhaaDoorDecN
import Derived.LoopN
import Derived.Handy
import Derived.OwnWalk
import Derived.Laws.IdiomStrings
import Derived.Outline
namespace Go.Proofs.YtohidondlndkhaaDoor
open Go.ChangeShapes Go.WideShapes Go.ChangeAt Go.RowKit
set_option linter.unusedVariables false
set_option maxRecDepth 100000
set_option linter.unusedSimpArgs false
set_option maxHeartbeats 1000000

theorem infoB : (Tryd.prog.info? 5).map (fun i => (i.zero, i.size, i.bytes)) = some (some (.int .u8 0), 1, 1) := by kernel_rfl
theorem prep_ge (u : Nat) : ∀ acc, acc.length ≤ (prep u acc).length := by
  induction u using Nat.strongRecOn with
  | _ u ih =>
    intro acc
    by_cases c : u = 0
    · subst c; rw [prep_zero]; omega
    · rw [prep_next c]
      have := ih (u / 10) (by omega) (UInt8.ofNat (48 + u % 10) :: acc)
      rw [List.length_cons] at this; omega
theorem prep_pos {u : Nat} (h : u ≠ 0) {acc : List UInt8} : 0 < (prep u acc).length := by
  rw [prep_next h]
  have := prep_ge (u / 10) (UInt8.ofNat (48 + u % 10) :: acc)
  rw [List.length_cons] at this; omega
theorem prep_short {n : Int} (h : -9223372036854775808 ≤ n ∧ n ≤ 9223372036854775807) : (prep n.natAbs []).length ≤ 20 := by
  have := prep_length n.natAbs [] 20 (by have e : (10 : Nat) ^ 20 = 100000000000000000000 := by decide
                                         omega)
  simpa using this
theorem addr_add (b j : Nat) : (⟨b, 0, none⟩ : Addr).add j = ⟨b, j, none⟩ := by
  by_cases q : j = 0
  · subst q; rfl
  · simp [Addr.add, q]
theorem dig_byte {d : Nat} (h : d ≤ 9) : ((UInt8.ofNat (48 + d)).toNat : Int) = 48 + (d : Int) := by
  rw [UInt8.toNat_ofNat']; omega
set_option maxHeartbeats 8000000 in
theorem l01Dec_any (n : Int) (h0 : -9223372036854775808 ≤ n) (h1 : n ≤ 9223372036854775807) (w : World) : Calls Tryd.prog 40 #[.int .i64 n] w fun e w' =>
    e = .returned (.string ⟨(Lib.itoa n).toArray⟩) ∧ Below w.heap.size w w' := by
  obtain ⟨i0, hi, hz0, hz1, hz2⟩ := info_parts infoB
  have SH := Lib.hid (prep_short ⟨h0, h1⟩)
  go_enter Tryd.func40, Tryd.ntmps40
  go_wp2_with fail
  go_loopw [3, 4] (fun v k wr => ∃ (gb cb : Nat) (l : List UInt8) (K : Int), v = .slice (some ⟨gb, 0, none⟩) l.length cb ∧ k = .int .i64 K ∧ -9223372036854775808 ≤ K ∧ K ≤ 9223372036854775807 ∧ Hid (prep K.natAbs l = prep n.natAbs []) ∧ Hid (∀ j (hj : j < l.length), wr.cell? ⟨gb, j, none⟩ = some (.int .u8 (l[j].toNat : Int))) ∧ Below w.heap.size w wr) (fun _ k _ => (intOf k).natAbs)
  case atStart => exact ⟨w.heap.size, 0, [], n, rfl, rfl, h0, h1, Lib.hid rfl, Lib.hid (fun j hj => absurd hj (by simp)), belB⟩
  case round =>
    obtain ⟨gb, cb, l, K, rfl, rfl, k0, k1, R, C, hb⟩ := hrel
    have hsz := hb.size
    have ll : l.length ≤ 20 := by
      have a := prep_ge K.natAbs l
      rw [R.out] at a
      have b := SH.out
      omega
    by_cases z : K = 0
    · subst z
      have c0 : ((0 : Int) != 0) = false := rfl
      have RL : l = prep n.natAbs [] := by rw [← R.out]; exact (prep_zero l).symm
      by_cases e : n = 0
      · subst e
        have l0 : l = [] := by rw [RL]; exact prep_zero []
        subst l0
        have IZ := Lib.hid itoa_zero
        clear RL R
        go_wp2
        go_ret
        exact ⟨by rw [IZ.out]; rfl, hb⟩
      · have lp : 0 < l.length := by rw [RL]; exact prep_pos (by omega)
        have LZ : ((l.length : Int) == 0) = false := by rw [beq_eq_false_iff_ne]; omega
        have IT : Lib.itoa n = (if n < 0 then [45] else []) ++ l := by rw [RL]; exact itoa_prep n e
        have hconv : (convert 69 9 (.slice (some ⟨gb, 0, none⟩) l.length cb)).run Tryd.prog wr = .ok (.string ⟨l.toArray⟩) wr :=
          run_convert_bytes_back wr _ _ 5 ⟨gb, 0, none⟩ cb l Tryd.underlying69 Tryd.underlying5 Tryd.underlying9 (fun j hj => by rw [addr_add]; exact C.out j hj)
        by_cases s : n < 0
        · have s0 : decide (n < 0) = true := decide_eq_true s
          rw [if_pos s] at IT
          have ITH := Lib.hid IT
          clear RL R IT e lp
          go_wp2
          go_ret
          exact ⟨by rw [ITH.out]; rfl, hb⟩
        · have s0 : decide (n < 0) = false := decide_eq_false s
          rw [if_neg s] at IT
          have ITH := Lib.hid IT
          clear RL R IT e lp
          go_wp2
          go_ret
          exact ⟨by rw [ITH.out]; rfl, hb⟩
    · have c0 : (K != 0) = true := by simpa using z
      obtain ⟨D, hD⟩ : ∃ D : Nat, D = K.natAbs % 10 := ⟨_, rfl⟩
      have D9 : D ≤ 9 := by omega
      have hm : (K.tmod 10).natAbs = D := by rw [digit_here, hD]
      have hq := digit_next K
      have NX : prep (K.tdiv 10).natAbs (UInt8.ofNat (48 + D) :: l) = prep n.natAbs [] := by
        rw [← R.out, prep_next (u := K.natAbs) (by omega), hq, hD]
      have NXH := Lib.hid NX
      have BY := Lib.hid (dig_byte D9)
      obtain ⟨d0, hd0⟩ : ∃ d0 : Int, d0 = (D : Int) := ⟨_, rfl⟩
      have d1 : 0 ≤ d0 := by omega
      have d2 : d0 ≤ 9 := by omega
      obtain ⟨c, hc⟩ : ∃ c : Int, c = 48 + d0 := ⟨_, rfl⟩
      have c1 : 48 ≤ c := by omega
      have c2 : c ≤ 57 := by omega
      have WC : 48 + d0 = c := hc.symm
      have WU : IntKind.u8.wrap c = c := by rw [IntKind.wrap_u8]; omega
      have q0 : -9223372036854775808 ≤ K.tdiv 10 := by omega
      have q1 : K.tdiv 10 ≤ 9223372036854775807 := by omega
      have WQ : IntKind.i64.wrap (K.tdiv 10) = K.tdiv 10 := by rw [IntKind.wrap_i64]; omega
      have CB : ((UInt8.ofNat (48 + D)).toNat : Int) = c := by rw [BY.out]; omega
      have CBH := Lib.hid CB
      have L1 : (UInt8.ofNat (48 + D) :: l).length = 1 + l.length := by simp; omega
      have L1H := Lib.hid L1
      have MS := Lib.hid (show (K.tdiv 10).natAbs < K.natAbs by omega)
      have RC := R
      by_cases s : K.tmod 10 < 0
      · have TM : K.tmod 10 = -d0 := by omega
        have d3 : 0 < d0 := by omega
        clear s hm hq NX hD BY hd0 hc CB R z L1
        have s0 : decide (-d0 < 0) = true := decide_eq_true (by omega)
        go_wp2_with (first
          | (at_builtin; refine wpList_append_own _ rfl _ _ 69 rfl w.heap.size 5 i0 (.int .u8 0) 1 1 Tryd.underlying69 hi hz0 hz1 hz2 rfl (by decide) (.slice (some ⟨wr.heap.size, 0, none⟩) 1 1) 1 [.int .u8 c] rfl ?c0 ⟨gb, 0, none⟩ l.length cb (l.map fun b => .int .u8 (b.toNat : Int)) rfl ?c1 ?c2 ?c3 ?c4 ?c5 ?c6 ?_))
        case c0 => exact ⟨rfl, .inr ⟨wr.heap.size, 1, #[.int .u8 c], rfl, hsz, by show (wr.heap.push _)[wr.heap.size]? = _; simp, by omega, by unfold maxLen; omega, rfl, rfl⟩⟩
        case c1 => simp
        case c2 =>
          intro j u h
          rw [addr_add]
          rw [List.getElem?_map] at h
          obtain ⟨b, hb1, hb2⟩ := Option.map_eq_some_iff.1 h
          obtain ⟨hj, hv⟩ := List.getElem?_eq_some_iff.1 hb1
          rw [← hb2, ← hv]
          exact cell_alloc (C.out j hj)
        case c3 => intro u h; obtain ⟨b, _, rfl⟩ := List.mem_map.1 h; rfl
        case c4 => unfold maxLen; omega
        case c5 => omega
        case c6 => simp; omega
        · intro v' w4 hown4 hgrow _
          have gs := hgrow.size
          simp at gs
          obtain ⟨gb', cb', rfl⟩ := Joins.ownsRow_form hown4 (by omega)
          have CH : Hid (∀ j (hj : j < (UInt8.ofNat (48 + D) :: l).length), w4.cell? ⟨gb', j, none⟩ = some (.int .u8 (((UInt8.ofNat (48 + D) :: l)[j]).toNat : Int))) := Lib.hid (by
            intro j hj
            have z := hown4.cellAt j (by rw [L1H.out] at hj; omega)
            rw [z]
            cases j with
            | zero => simp only [List.getElem?_cons_zero, List.getElem_cons_zero]; rw [CBH.out]
            | succ j =>
              have hj' : j < l.length := by rw [L1H.out] at hj; omega
              simp only [List.getElem?_cons_succ, List.getElem_cons_succ, List.getElem?_map]
              rw [List.getElem?_eq_getElem hj']; rfl)
          have B4 : Below w.heap.size w w4 := ⟨hgrow.os.trans hb.os, hgrow.tape.trans hb.tape, hgrow.output.trans hb.output, by omega, fun i hi => (hgrow.block i (by simp; omega) (fun e => by simp [Value.ownBlock] at e; omega)).trans ((Below.heap_alloc _ _ _ (by omega)).trans (hb.block i hi))⟩
          clear hgrow hown4
          go_wp2
          go_roundw
          case rel => exact ⟨gb', cb', UInt8.ofNat (48 + D) :: l, K.tdiv 10, by rw [L1H.out], rfl, q0, q1, NXH, CH, B4⟩
          case measure => first | exact MS.out | (simp [intOf]; exact MS.out)
      · have TM : K.tmod 10 = d0 := by omega
        have s0 : decide (d0 < 0) = false := decide_eq_false (by omega)
        clear s hm hq NX hD BY hd0 hc CB R z L1
        go_wp2_with (first
          | (at_builtin; refine wpList_append_own _ rfl _ _ 69 rfl w.heap.size 5 i0 (.int .u8 0) 1 1 Tryd.underlying69 hi hz0 hz1 hz2 rfl (by decide) (.slice (some ⟨wr.heap.size, 0, none⟩) 1 1) 1 [.int .u8 c] rfl ?c0 ⟨gb, 0, none⟩ l.length cb (l.map fun b => .int .u8 (b.toNat : Int)) rfl ?c1 ?c2 ?c3 ?c4 ?c5 ?c6 ?_))
        case c0 => exact ⟨rfl, .inr ⟨wr.heap.size, 1, #[.int .u8 c], rfl, hsz, by show (wr.heap.push _)[wr.heap.size]? = _; simp, by omega, by unfold maxLen; omega, rfl, rfl⟩⟩
        case c1 => simp
        case c2 =>
          intro j u h
          rw [addr_add]
          rw [List.getElem?_map] at h
          obtain ⟨b, hb1, hb2⟩ := Option.map_eq_some_iff.1 h
          obtain ⟨hj, hv⟩ := List.getElem?_eq_some_iff.1 hb1
          rw [← hb2, ← hv]
          exact cell_alloc (C.out j hj)
        case c3 => intro u h; obtain ⟨b, _, rfl⟩ := List.mem_map.1 h; rfl
        case c4 => unfold maxLen; omega
        case c5 => omega
        case c6 => simp; omega
        · intro v' w4 hown4 hgrow _
          have gs := hgrow.size
          simp at gs
          obtain ⟨gb', cb', rfl⟩ := Joins.ownsRow_form hown4 (by omega)
          have CH : Hid (∀ j (hj : j < (UInt8.ofNat (48 + D) :: l).length), w4.cell? ⟨gb', j, none⟩ = some (.int .u8 (((UInt8.ofNat (48 + D) :: l)[j]).toNat : Int))) := Lib.hid (by
            intro j hj
            have z := hown4.cellAt j (by rw [L1H.out] at hj; omega)
            rw [z]
            cases j with
            | zero => simp only [List.getElem?_cons_zero, List.getElem_cons_zero]; rw [CBH.out]
            | succ j =>
              have hj' : j < l.length := by rw [L1H.out] at hj; omega
              simp only [List.getElem?_cons_succ, List.getElem_cons_succ, List.getElem?_map]
              rw [List.getElem?_eq_getElem hj']; rfl)
          have B4 : Below w.heap.size w w4 := ⟨hgrow.os.trans hb.os, hgrow.tape.trans hb.tape, hgrow.output.trans hb.output, by omega, fun i hi => (hgrow.block i (by simp; omega) (fun e => by simp [Value.ownBlock] at e; omega)).trans ((Below.heap_alloc _ _ _ (by omega)).trans (hb.block i hi))⟩
          clear hgrow hown4
          go_wp2
          go_roundw
          case rel => exact ⟨gb', cb', UInt8.ofNat (48 + D) :: l, K.tdiv 10, by rw [L1H.out], rfl, q0, q1, NXH, CH, B4⟩
          case measure => first | exact MS.out | (simp [intOf]; exact MS.out)
end Go.Proofs.YtohidondlndkhaaDoor
