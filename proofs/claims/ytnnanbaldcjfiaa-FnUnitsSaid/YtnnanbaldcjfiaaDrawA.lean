/- Contracts of the functions that draw choices from bytes: next, pick, one, l00From. Conditions: the source lies in a block of its own above the bytes, and fewer than 2^60 bytes have been drawn. -/
import Derived.Test.YtnnanbaldcjfiaaWideZa
import Derived.BigQuiet
import Derived.Test.YtnnanbaldcjfiaaNumZ
namespace Go.Proofs.Ytnnanbaldcjfiaa
open Go.ChangeShapes Go.WideShapes Go.ChangeAt Go.RowKit
set_option linter.unusedVariables false
set_option maxRecDepth 100000
set_option linter.unusedSimpArgs false
set_option maxHeartbeats 1000000

/-- The bytes of a slice, in a block below B. -/
structure BytesAt (w : World) (B : Nat) (a : Option Addr) (len : Nat) : Prop where
  big : len ≤ 9223372036854775807
  byte : ∀ j, j < len → ∃ b off z, a = some ⟨b, off, none⟩ ∧ b < B ∧ w.cell? ⟨b, off + j, none⟩ = some (.int .u8 z) ∧ 0 ≤ z ∧ z ≤ 255
theorem BytesAt.kept {w w' : World} {B : Nat} {a : Option Addr} {len : Nat} (h : BytesAt w B a len) (k : ∀ i, i < B → w'.heap[i]? = w.heap[i]?) : BytesAt w' B a len :=
  ⟨h.big, fun j hj => by obtain ⟨b, off, z, e, hb, hc, z0, z1⟩ := h.byte j hj; exact ⟨b, off, z, e, hb, (World.cell?_of_block (k b hb)).trans hc, z0, z1⟩⟩
theorem BytesAt.mono {w : World} {B C : Nat} {a : Option Addr} {len : Nat} (h : BytesAt w B a len) (k : B ≤ C) : BytesAt w C a len :=
  ⟨h.big, fun j hj => by obtain ⟨b, off, z, e, hb, hc, z0, z1⟩ := h.byte j hj; exact ⟨b, off, z, e, by omega, hc, z0, z1⟩⟩
theorem BytesAt.below {w w' : World} {B : Nat} {a : Option Addr} {len : Nat} (h : BytesAt w B a len) (k : Below B w w') : BytesAt w' B a len := h.kept k.block

/-- The source of choices in block c: at most N bytes have been drawn. -/
structure SrcIs (w : World) (c : Nat) (a : Option Addr) (len cap n : Nat) (s : Int) : Prop where
  obj : w.heap[c]? = some (.cells #[.slice a len cap, .int .i64 (n : Int), .int .u64 s] 92 (0, 0))
  bytes : BytesAt w c a len
  seed : InU s
def Src (w : World) (c N : Nat) : Prop := ∃ a len cap n s, SrcIs w c a len cap n s ∧ n ≤ N
theorem Src.mono {w : World} {c N M : Nat} (h : Src w c N) (k : N ≤ M) : Src w c M := by
  obtain ⟨a, len, cap, n, s, h, hn⟩ := h; exact ⟨a, len, cap, n, s, h, by omega⟩
theorem Src.lt {w : World} {c N : Nat} (h : Src w c N) : c < w.heap.size := by
  obtain ⟨a, len, cap, n, s, h, hn⟩ := h
  have := h.obj
  exact (Array.getElem?_eq_some_iff.1 this).1
theorem Src.kept {w w' : World} {c N : Nat} (h : Src w c N) (k : ∀ i, i ≤ c → w'.heap[i]? = w.heap[i]?) : Src w' c N := by
  obtain ⟨a, len, cap, n, s, h, hn⟩ := h
  exact ⟨a, len, cap, n, s, ⟨(k c (Nat.le_refl _)).trans h.obj, h.bytes.kept (fun i hi => k i (by omega)), h.seed⟩, hn⟩
theorem Src.below {w w' : World} {c N B : Nat} (h : Src w c N) (k : Below B w w') (hB : c < B) : Src w' c N := h.kept (fun i hi => k.block i (by omega))
theorem SrcIs.cells {w : World} {c : Nat} {a : Option Addr} {len cap n : Nat} {s : Int} (h : SrcIs w c a len cap n s) :
    w.cell? ⟨c, 0, none⟩ = some (.slice a len cap) ∧ w.cell? ⟨c, 1, none⟩ = some (.int .i64 (n : Int)) ∧ w.cell? ⟨c, 2, none⟩ = some (.int .u64 s) ∧
    (∀ o, w.frozen? ⟨c, o, none⟩ = false) := by
  have o := h.obj
  refine ⟨?_, ?_, ?_, fun _ => frozen_of_row w c _ _ _ o⟩ <;> simp [World.cell?, o]
/-- Two stores turn a source into the next one. -/
theorem SrcIs.turned {w w' : World} {c : Nat} {a : Option Addr} {len cap n m : Nat} {s t x : Int} (h : SrcIs w c a len cap n s) (ht : InU t)
    (e : x = (m : Int)) (hw : w' = (w.setCell ⟨c, 1, none⟩ (.int .i64 x)).setCell ⟨c, 2, none⟩ (.int .u64 t)) : SrcIs w' c a len cap m t ∧ w.grownBy w' (some c) := by
  subst hw; subst e
  have o := h.obj
  have o1 := heap_setCell_same w c 1 _ _ (.int .i64 (m : Int)) o
  have o2 := heap_setCell_same _ c 2 _ _ (.int .u64 t) o1
  have k : ∀ i, i ≠ c → ((w.setCell ⟨c, 1, none⟩ (.int .i64 (m : Int))).setCell ⟨c, 2, none⟩ (.int .u64 t)).heap[i]? = w.heap[i]? := fun i hi =>
    (heap_setCell_other _ ⟨c, 2, none⟩ i _ hi).trans (heap_setCell_other _ ⟨c, 1, none⟩ i _ hi)
  refine ⟨⟨by rw [o2]; simp, h.bytes.kept (fun i hi => k i (by omega)), ht⟩, rfl, rfl, rfl, by simp, fun i _ hi => k i (fun e => hi (by rw [e]))⟩
/-- The same behind three draws. -/
theorem SrcIs.turned3 {w w' : World} {c : Nat} {a : Option Addr} {len cap n N : Nat} {s t x : Int} (h : SrcIs w c a len cap n s) (m : Nat) (hm : m ≤ N)
    (e : x = (m : Int)) (hw : w' = ((w.setCell ⟨c, 1, none⟩ (.int .i64 x)).setCell ⟨c, 2, none⟩ (.int .u64 (IntKind.u64.wrap t))).drew.drew.drew) : Src w' c N ∧ w.grownBy w' (some c) := by
  obtain ⟨p, q⟩ := h.turned (m := m) (t := IntKind.u64.wrap t) (by rw [wrapU]; exact inU_lo _) e rfl
  subst hw
  exact ⟨⟨a, len, cap, m, _, ⟨p.obj, p.bytes.kept (fun _ _ => rfl), p.seed⟩, hm⟩, q.os, q.tape, q.output, q.size, q.block⟩
theorem SrcIs.turned2 {w w' : World} {c : Nat} {a : Option Addr} {len cap n N : Nat} {s t x : Int} (h : SrcIs w c a len cap n s) (m : Nat) (hm : m ≤ N)
    (e : x = (m : Int)) (hw : w' = ((w.setCell ⟨c, 1, none⟩ (.int .i64 x)).setCell ⟨c, 2, none⟩ (.int .u64 (IntKind.u64.wrap t))).drew.drew) : Src w' c N ∧ w.grownBy w' (some c) := by
  obtain ⟨p, q⟩ := h.turned (m := m) (t := IntKind.u64.wrap t) (by rw [wrapU]; exact inU_lo _) e rfl
  subst hw
  exact ⟨⟨a, len, cap, m, _, ⟨p.obj, p.bytes.kept (fun _ _ => rfl), p.seed⟩, hm⟩, q.os, q.tape, q.output, q.size, q.block⟩
theorem and_byte {x : Int} (h : InU x) : 0 ≤ bits .and .u64 x 255 ∧ bits .and .u64 x 255 ≤ 255 := by
  obtain ⟨X, rfl⟩ : ∃ X : Nat, x = X := ⟨x.toNat, by unfold InU at h; omega⟩
  unfold InU at h
  have e := bits_and_u64_nat X 255 (by omega) (by omega)
  have : X &&& 255 ≤ 255 := Nat.and_le_right
  rw [show ((255 : Int)) = ((255 : Nat) : Int) from rfl, e]; omega
theorem seed_byte (x : Int) : 0 ≤ wrap64 (bits .and .u64 (IntKind.u64.wrap x / 1099511627776) 255) ∧ wrap64 (bits .and .u64 (IntKind.u64.wrap x / 1099511627776) 255) ≤ 255 := by
  have h := inU_lo x
  have := and_byte (x := IntKind.u64.wrap x / 1099511627776) (by rw [wrapU]; unfold InU at *; omega)
  rw [wrap64_self (by unfold In64; omega)]
  exact this
theorem next_any (c N : Nat) (hN : N ≤ 1000000000) (w : World) (hs : Src w c N) : Calls Try.prog 122 #[.pointer (some ⟨c, 0, none⟩)] w fun e w' =>
    ∃ x, e = .returned (.int .i64 x) ∧ 0 ≤ x ∧ x ≤ 255 ∧ Src w' c (N + 1) ∧ w.grownBy w' (some c) := by
  obtain ⟨a, len, cap, n, s, h, hn⟩ := hs
  have big := h.bytes.big
  obtain ⟨h0, h1, h2, hf⟩ := h.cells
  have H := Lib.hid h
  by_cases k : n < len
  · obtain ⟨b, off, z, ea, hb, hz, z0, z1⟩ := h.bytes.byte n k
    subst ea
    clear h
    go_enter Try.func122, Try.ntmps122
    go_wp2_with fail
    go_region
    go_wp2_with fail
    go_region
    go_wp2_with fail
    go_region
    go_wp2
    go_ret
    exact ⟨_, rfl, z0, z1, H.out.turned3 (n + 1) (by omega) (by omega) rfl⟩
  · clear h
    go_enter Try.func122, Try.ntmps122
    go_wp2_with fail
    go_region
    go_wp2_with fail
    go_region
    go_wp2
    go_ret
    refine ⟨_, rfl, ?_, ?_, H.out.turned2 (n + 1) (by omega) (by omega) rfl⟩
    · exact (seed_byte _).1
    · exact (seed_byte _).2
end Go.Proofs.Ytnnanbaldcjfiaa
