/- Contracts of exact roots and of the choice of a fix. Conditions: numbers are int64. -/
import Derived.Test.YtnnanbaldcjfiaaFixA
import Derived.Outline
namespace Go.Proofs.Ytnnanbaldcjfiaa
open Go.ChangeShapes Go.WideShapes Go.ChangeAt Go.RowKit
set_option linter.unusedVariables false
set_option maxRecDepth 100000
set_option linter.unusedSimpArgs false
set_option maxHeartbeats 1000000

theorem sf_unit {a : Int} (h : In64 a) (h1 : a ≤ 1152921504606846976) : sfI a 4294967296 = rtD a ∧ sfB a 4294967296 = decide (0 ≤ a) := by
  have b := rtD_in h1
  unfold sfI sfB
  by_cases s : a < 0
  · rw [if_pos (.inl s)]
    exact ⟨(if_pos s).symm, by simp; first | done | omega⟩
  · rw [if_neg (by omega)]
    have e : rtD a = (rootW (a * 4294967296).toNat : Int) := if_neg s
    rw [← e]
    exact ⟨wrap64_self (by unfold In64; omega), by simp; first | done | omega⟩
theorem fixOf_down (v d : Int) (hv : InW v) (hd : In64 d) (w : World) : Calls Try.prog 50 #[.func (Fn.func 52) #[.agg #[.int .i64 (hiW v), .int .u64 (loW v), .int .i64 d]] #[]] w fun e w' =>
    e = .returned (.tuple #[.int .i64 (resI (okD d) (quoW v d)), .bool (resB (okD d) (quoW v d))]) ∧ Below w.heap.size w w' := by
  have C := Lib.hid (fun w => ratio_down v d hv hd w)
  have XI := Lib.hid (show InW (quoW v d) from quoW_in hv)
  obtain ⟨x, hx⟩ : ∃ x, x = quoW v d := ⟨_, rfl⟩
  rw [← hx] at C XI
  rw [← hx]
  have WI := Lib.hid (fun w => WideInt_any x XI.out w)
  clear hx XI
  obtain ⟨c, hc⟩ : ∃ c, c = okD d := ⟨_, rfl⟩
  rw [← hc] at C
  rw [← hc]
  clear hc hv hd
  by_cases s : In64 x
  · have O := okW_yes s
    have V := Lib.hid (intW_self s)
    clear s
    by_cases f : InF x
    · have F := okF_yes f
      cases c
      · have E := Lib.hid (res_none (c := false) (v := x) rfl)
        clear f
        go_enter Try.func50, Try.ntmps50
        go_wp2_with fail
        refine (C.out _).mono ?_
        rintro e w1 ⟨rfl, hb1⟩
        have hs1 : _ ≤ w1.heap.size := hb1.size
        try simp at hs1
        go_wp2_with fail
        refine (WI.out _).mono ?_
        rintro e w2 ⟨rfl, hb2⟩
        have hs2 : _ ≤ w2.heap.size := hb2.size
        try simp at hs2
        go_wp2
        go_ret2
        exact ⟨(by first | (rw [E.out.1, E.out.2]; done) | (rw [E.out.1, E.out.2]; rfl) | (simp [E.out.1, E.out.2]; done)), belB⟩
      · have E := Lib.hid (res_yes (c := true) rfl f)
        clear f
        go_enter Try.func50, Try.ntmps50
        go_wp2_with fail
        refine (C.out _).mono ?_
        rintro e w1 ⟨rfl, hb1⟩
        have hs1 : _ ≤ w1.heap.size := hb1.size
        try simp at hs1
        go_wp2_with fail
        refine (WI.out _).mono ?_
        rintro e w2 ⟨rfl, hb2⟩
        have hs2 : _ ≤ w2.heap.size := hb2.size
        try simp at hs2
        rw [V.out]
        go_wp2_with fail
        refine (ValidFix_any x _).mono ?_
        rintro e w3 ⟨rfl, rfl⟩
        go_wp2
        go_ret2
        exact ⟨(by first | (rw [E.out.1, E.out.2]; done) | (rw [E.out.1, E.out.2]; rfl) | (simp [E.out.1, E.out.2]; done)), belB⟩
    · have F := okF_no f
      have E := Lib.hid (res_over (c := c) f)
      clear f
      cases c
      · go_enter Try.func50, Try.ntmps50
        go_wp2_with fail
        refine (C.out _).mono ?_
        rintro e w1 ⟨rfl, hb1⟩
        have hs1 : _ ≤ w1.heap.size := hb1.size
        try simp at hs1
        go_wp2_with fail
        refine (WI.out _).mono ?_
        rintro e w2 ⟨rfl, hb2⟩
        have hs2 : _ ≤ w2.heap.size := hb2.size
        try simp at hs2
        go_wp2
        go_ret2
        exact ⟨(by first | (rw [E.out.1, E.out.2]; done) | (rw [E.out.1, E.out.2]; rfl) | (simp [E.out.1, E.out.2]; done)), belB⟩
      · go_enter Try.func50, Try.ntmps50
        go_wp2_with fail
        refine (C.out _).mono ?_
        rintro e w1 ⟨rfl, hb1⟩
        have hs1 : _ ≤ w1.heap.size := hb1.size
        try simp at hs1
        go_wp2_with fail
        refine (WI.out _).mono ?_
        rintro e w2 ⟨rfl, hb2⟩
        have hs2 : _ ≤ w2.heap.size := hb2.size
        try simp at hs2
        rw [V.out]
        go_wp2_with fail
        refine (ValidFix_any x _).mono ?_
        rintro e w3 ⟨rfl, rfl⟩
        go_wp2
        go_ret2
        exact ⟨(by first | (rw [E.out.1, E.out.2]; done) | (rw [E.out.1, E.out.2]; rfl) | (simp [E.out.1, E.out.2]; done)), belB⟩
  · have O := okW_no s
    have E := Lib.hid (res_over (c := c) (fun f : InF x => s (inF_64 f)))
    clear s
    cases c
    · go_enter Try.func50, Try.ntmps50
      go_wp2_with fail
      refine (C.out _).mono ?_
      rintro e w1 ⟨rfl, hb1⟩
      have hs1 : _ ≤ w1.heap.size := hb1.size
      try simp at hs1
      go_wp2_with fail
      refine (WI.out _).mono ?_
      rintro e w2 ⟨rfl, hb2⟩
      have hs2 : _ ≤ w2.heap.size := hb2.size
      try simp at hs2
      go_wp2
      go_ret2
      exact ⟨(by first | (rw [E.out.1, E.out.2]; done) | (rw [E.out.1, E.out.2]; rfl) | (simp [E.out.1, E.out.2]; done)), belB⟩
    · go_enter Try.func50, Try.ntmps50
      go_wp2_with fail
      refine (C.out _).mono ?_
      rintro e w1 ⟨rfl, hb1⟩
      have hs1 : _ ≤ w1.heap.size := hb1.size
      try simp at hs1
      go_wp2_with fail
      refine (WI.out _).mono ?_
      rintro e w2 ⟨rfl, hb2⟩
      have hs2 : _ ≤ w2.heap.size := hb2.size
      try simp at hs2
      go_wp2
      go_ret2
      exact ⟨(by first | (rw [E.out.1, E.out.2]; done) | (rw [E.out.1, E.out.2]; rfl) | (simp [E.out.1, E.out.2]; done)), belB⟩
theorem fixOf_up (v d : Int) (hv : InW v) (hd : In64 d) (w : World) : Calls Try.prog 50 #[.func (Fn.func 53) #[.agg #[.int .i64 (hiW v), .int .u64 (loW v), .int .i64 d]] #[]] w fun e w' =>
    e = .returned (.tuple #[.int .i64 (resI (okD d) (upW v d)), .bool (resB (okD d) (upW v d))]) ∧ Below w.heap.size w w' := by
  have C := Lib.hid (fun w => ratio_up v d hv hd w)
  have XI := Lib.hid (show InW (upW v d) from up_in hv)
  obtain ⟨x, hx⟩ : ∃ x, x = upW v d := ⟨_, rfl⟩
  rw [← hx] at C XI
  rw [← hx]
  have WI := Lib.hid (fun w => WideInt_any x XI.out w)
  clear hx XI
  obtain ⟨c, hc⟩ : ∃ c, c = okD d := ⟨_, rfl⟩
  rw [← hc] at C
  rw [← hc]
  clear hc hv hd
  by_cases s : In64 x
  · have O := okW_yes s
    have V := Lib.hid (intW_self s)
    clear s
    by_cases f : InF x
    · have F := okF_yes f
      cases c
      · have E := Lib.hid (res_none (c := false) (v := x) rfl)
        clear f
        go_enter Try.func50, Try.ntmps50
        go_wp2_with fail
        refine (C.out _).mono ?_
        rintro e w1 ⟨rfl, hb1⟩
        have hs1 : _ ≤ w1.heap.size := hb1.size
        try simp at hs1
        go_wp2_with fail
        refine (WI.out _).mono ?_
        rintro e w2 ⟨rfl, hb2⟩
        have hs2 : _ ≤ w2.heap.size := hb2.size
        try simp at hs2
        go_wp2
        go_ret2
        exact ⟨(by first | (rw [E.out.1, E.out.2]; done) | (rw [E.out.1, E.out.2]; rfl) | (simp [E.out.1, E.out.2]; done)), belB⟩
      · have E := Lib.hid (res_yes (c := true) rfl f)
        clear f
        go_enter Try.func50, Try.ntmps50
        go_wp2_with fail
        refine (C.out _).mono ?_
        rintro e w1 ⟨rfl, hb1⟩
        have hs1 : _ ≤ w1.heap.size := hb1.size
        try simp at hs1
        go_wp2_with fail
        refine (WI.out _).mono ?_
        rintro e w2 ⟨rfl, hb2⟩
        have hs2 : _ ≤ w2.heap.size := hb2.size
        try simp at hs2
        rw [V.out]
        go_wp2_with fail
        refine (ValidFix_any x _).mono ?_
        rintro e w3 ⟨rfl, rfl⟩
        go_wp2
        go_ret2
        exact ⟨(by first | (rw [E.out.1, E.out.2]; done) | (rw [E.out.1, E.out.2]; rfl) | (simp [E.out.1, E.out.2]; done)), belB⟩
    · have F := okF_no f
      have E := Lib.hid (res_over (c := c) f)
      clear f
      cases c
      · go_enter Try.func50, Try.ntmps50
        go_wp2_with fail
        refine (C.out _).mono ?_
        rintro e w1 ⟨rfl, hb1⟩
        have hs1 : _ ≤ w1.heap.size := hb1.size
        try simp at hs1
        go_wp2_with fail
        refine (WI.out _).mono ?_
        rintro e w2 ⟨rfl, hb2⟩
        have hs2 : _ ≤ w2.heap.size := hb2.size
        try simp at hs2
        go_wp2
        go_ret2
        exact ⟨(by first | (rw [E.out.1, E.out.2]; done) | (rw [E.out.1, E.out.2]; rfl) | (simp [E.out.1, E.out.2]; done)), belB⟩
      · go_enter Try.func50, Try.ntmps50
        go_wp2_with fail
        refine (C.out _).mono ?_
        rintro e w1 ⟨rfl, hb1⟩
        have hs1 : _ ≤ w1.heap.size := hb1.size
        try simp at hs1
        go_wp2_with fail
        refine (WI.out _).mono ?_
        rintro e w2 ⟨rfl, hb2⟩
        have hs2 : _ ≤ w2.heap.size := hb2.size
        try simp at hs2
        rw [V.out]
        go_wp2_with fail
        refine (ValidFix_any x _).mono ?_
        rintro e w3 ⟨rfl, rfl⟩
        go_wp2
        go_ret2
        exact ⟨(by first | (rw [E.out.1, E.out.2]; done) | (rw [E.out.1, E.out.2]; rfl) | (simp [E.out.1, E.out.2]; done)), belB⟩
  · have O := okW_no s
    have E := Lib.hid (res_over (c := c) (fun f : InF x => s (inF_64 f)))
    clear s
    cases c
    · go_enter Try.func50, Try.ntmps50
      go_wp2_with fail
      refine (C.out _).mono ?_
      rintro e w1 ⟨rfl, hb1⟩
      have hs1 : _ ≤ w1.heap.size := hb1.size
      try simp at hs1
      go_wp2_with fail
      refine (WI.out _).mono ?_
      rintro e w2 ⟨rfl, hb2⟩
      have hs2 : _ ≤ w2.heap.size := hb2.size
      try simp at hs2
      go_wp2
      go_ret2
      exact ⟨(by first | (rw [E.out.1, E.out.2]; done) | (rw [E.out.1, E.out.2]; rfl) | (simp [E.out.1, E.out.2]; done)), belB⟩
    · go_enter Try.func50, Try.ntmps50
      go_wp2_with fail
      refine (C.out _).mono ?_
      rintro e w1 ⟨rfl, hb1⟩
      have hs1 : _ ≤ w1.heap.size := hb1.size
      try simp at hs1
      go_wp2_with fail
      refine (WI.out _).mono ?_
      rintro e w2 ⟨rfl, hb2⟩
      have hs2 : _ ≤ w2.heap.size := hb2.size
      try simp at hs2
      go_wp2
      go_ret2
      exact ⟨(by first | (rw [E.out.1, E.out.2]; done) | (rw [E.out.1, E.out.2]; rfl) | (simp [E.out.1, E.out.2]; done)), belB⟩
end Go.Proofs.Ytnnanbaldcjfiaa
