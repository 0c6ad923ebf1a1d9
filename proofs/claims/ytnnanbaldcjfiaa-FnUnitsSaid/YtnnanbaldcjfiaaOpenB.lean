/- A slice of bytes among a row's arguments: opened once, nil or not, and read again behind the call. Conditions: as the lemma says. -/
import Derived.Test.YtnnanbaldcjfiaaDrawA
import Derived.ChangeSlices
namespace Go.Proofs.Ytnnanbaldcjfiaa
open Go.ChangeShapes Go.WideShapes Go.ChangeAt Go.RowKit

theorem open_bytes {H : Type} {enc : TypeId × Value → H} {P : Program} {W : World} {t e : TypeId} {r : Reach} {base : Nat} {v : Value} {d : DataW H} {p : List MemPlace}
    (ht : P.underlying t = some (.slice e)) (he : P.underlying e = some (.int .u8)) (hc : P.cellsOf e = 1) (hval : Value.okWide P W r base t v)
    (hd : DataW.Trod enc P W 0 (fun _ => true) true t v d p) :
    ∃ a len cap, v = .slice a len cap ∧ BytesAt W W.heap.size a len ∧
      (∀ (W' : World) (sp : Nat → Bool), Below W.heap.size W W' → (∀ x ∈ p, sp x.block = true) → DataW.Trod enc P W' 0 sp true t v d p) := by
  obtain ⟨a, len, cap, rfl⟩ := okWide_slice ht hval
  obtain ⟨fuel, hf⟩ := hd
  refine ⟨a, len, cap, rfl, ?_⟩
  rcases open_ints ht he hc hf with ⟨hcs, hx⟩ | ⟨b, len', cap', zs, hcs, _, hl, hm, hz, hx, hcell, hw⟩
  · simp [Value.cells] at hcs
    obtain ⟨rfl, rfl, rfl⟩ := hcs
    simp only [Prod.mk.injEq] at hx
    obtain ⟨rfl, rfl⟩ := hx
    exact ⟨⟨by omega, fun j hj => absurd hj (Nat.not_lt_zero _)⟩, fun W' sp _ _ => shut_slice_nil ht⟩
  · simp [Value.cells] at hcs
    obtain ⟨rfl, rfl, rfl⟩ := hcs
    simp only [Prod.mk.injEq] at hx
    obtain ⟨rfl, rfl⟩ := hx
    simp only [if_true] at hz
    refine ⟨⟨by unfold maxLen at hm; omega, fun j hj => ?_⟩, fun W' sp hb hsp => ?_⟩
    · obtain ⟨k, off, rfl, hk⟩ := ints_at hcell (by omega)
      have h := hk j (by omega)
      have lt := World.block_lt_of_cell? _ _ h
      have w := range_u8 hw j
      exact ⟨k, off, zs.getD j 0, rfl, lt, h, by simpa [List.getD] using w.1, by simpa [List.getD] using w.2⟩
    · have cell' : ∀ i, i < zs.length → W'.cell? (b.add i) = some (.int .u8 (zs.getD i 0)) := fun i hi => (hb.cell (World.block_lt_of_cell? _ _ (hcell i hi))).trans (hcell i hi)
      have hzz : zs.length = (if sp b.block then cap else len) := by
        by_cases z : zs.length = 0
        · split <;> omega
        · have : sp b.block = true := by
            have := hsp (.cell b.block b.off) (MemPlace.mem_row.2 ⟨0, by omega, by simp⟩)
            exact this
          rw [if_pos this, hz]
      exact ⟨2, by simpa [Value.cells] using shut_ints (base := 0) (held := true) 0 ht he hc (Nat.zero_le _) hl hm hzz cell' hw⟩
end Go.Proofs.Ytnnanbaldcjfiaa
