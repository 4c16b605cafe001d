/- Disks: the program's disk of the files that are in a table. -/
import Derived.Test.YtejbbhjhinkcdaaTabF14
import Derived.Test.YtejbbhjhinkcdaaSPut14
namespace Go.Proofs.Ytejbbhjhinkcdaa.IDk14
open Go.ChangeShapes Go.WideShapes Go.ChangeAt Go.RowKit Fil14 DiskH14 DkH14 SDk14 SOk14 SRd14 App14 SLess14 SCopy14 SRef14 SCom14 SPut14 TabF14
open DkH14 (row_step)
set_option linter.unusedVariables false
set_option linter.unusedSimpArgs false
theorem pt_step {B O : Nat} {W wr wz : World} {room : Int} {L : List TF} {a : Option Addr} {m c : Nat} (h : Pt B O W wr room L a m c) (k : Below wr.heap.size wr wz) : Pt B O W wz room L a m c :=
  ⟨⟨k.os.trans h.gr.os, k.tape.trans h.gr.tape, k.output.trans h.gr.output, Nat.le_trans h.gr.size k.size, fun i hi hr => (k.block i (Nat.lt_of_lt_of_le hi h.gr.size)).trans (h.gr.block i hi hr)⟩, h.bx.below k h.bx.lt.2, row_step h.ow k⟩
set_option maxRecDepth 100000 in
set_option maxHeartbeats 4000000 in
theorem iDisk (w : World) (B n : Nat) (f : Int → Option TF) (room : Int) (hT : Tf w B n f) :
    Calls Try.prog 29 #[.map (some B), .int .i64 room] w fun e w' => ∃ y : Dx, y.room = room ∧ y.ps = rowF f ∧ e = .returned (.agg #[.int .i64 y.room, .slice y.a y.ps.length y.c]) ∧ OwD w' w.heap.size y ∧ Below w.heap.size w w' := by
  have F : ∀ W1, W1 = w.alloc (.cells #[.int .i64 0, .slice none 0 0] 26) → ∀ W2, W2 = W1.alloc (.cells #[.int .i64 room, .slice none 0 0] 26) →
      Bc W2 w.heap.size w.heap.size (.int .i64 0) (.slice none 0 0) ∧ Bc W2 w.heap.size (w.heap.size + 1) (.int .i64 room) (.slice none 0 0) ∧ Tf W2 B n f ∧ Below w.heap.size w W2 ∧ W2.heap.size = w.heap.size + 2 := by
    intro W1 h1 W2 h2
    have s1 : W1.heap.size = w.heap.size + 1 := by rw [h1]; simp
    have s2 : W2.heap.size = w.heap.size + 2 := by rw [h2]; simp [s1]
    have b1 : Below w.heap.size w W1 := by rw [h1]; exact one_more _ _
    have b2 : Below W1.heap.size W1 W2 := by rw [h2]; exact one_more _ _
    have R1 : Bc W1 w.heap.size w.heap.size (.int .i64 0) (.slice none 0 0) := by rw [h1]; exact Bc.made _ _ (Nat.le_refl _) rfl
    have O1 : Bc W2 w.heap.size (w.heap.size + 1) (.int .i64 room) (.slice none 0 0) := by rw [h2]; exact Bc.made _ _ (by omega) s1.symm
    exact ⟨R1.below b2 (by omega), O1, (hT.below b1).below b2, b1.trans (b2.mono b1.size), s2⟩
  have G0 := hide (F _ rfl _ rfl)
  have hB := hT.lt
  clear F hT
  go_enter Try.func29, Try.ntmps29
  go_wp2
  generalize (w.alloc (.cells #[.int .i64 0, .slice none 0 0] 26)).alloc (.cells #[.int .i64 room, .slice none 0 0] 26) = W at *
  obtain ⟨RB, OB, TW, BW, s3⟩ := unhide G0
  have HRB := hide RB
  have HTW := hide TW
  have HBW := hide BW
  have hO : w.heap.size + 1 < W.heap.size := by omega
  have hb : W.heap.size = w.heap.size + 2 := s3
  clear G0 RB TW BW
  go_loopw [11] (fun i wr => ∃ (k m c : Nat) (a : Option Addr), i = .int .i64 k ∧ k ≤ 22 ∧ m ≤ k ∧ Hid (Pt w.heap.size (w.heap.size + 1) W wr room (rowN f k) a m c)) (fun i _ => 22 - (intOf i).toNat)
  case atStart => exact ⟨0, 0, 0, none, rfl, by omega, by omega, hide ⟨World.grownBy.refl _ _, OB, ⟨rfl, .inl ⟨rfl, rfl⟩⟩⟩⟩
  case round =>
    clear OB
    obtain ⟨k, m, c, a, rfl, hk, hm, HPt⟩ := hrel
    have bo := (unhide HPt).bx.c1
    have lo := (unhide HPt).bx.lt.2
    have vs := (unhide HPt).gr.size
    by_cases t : k < 22
    · have kt : (k : Int) < 22 := by omega
      have WF : Wf (k : Int) := wf_low ⟨by omega, by omega⟩
      have HT := hide ((unhide HTW).kept (unhide HPt).gr (by simp; omega))
      have NX := hide (show rowN f (k + 1) = rowN f k ++ (f k).toList from rfl)
      cases hf : f k with
      | none =>
        have HP : (f k).getD z0 = (0, ByteArray.empty, ByteArray.empty) := by rw [hf]; rfl
        have HI : (f k).isSome = false := by rw [hf]; rfl
        rw [hf] at NX
        have P1 := hide (pt_step (unhide HPt) (one_more wr (.cells #[.int .i64 0, .string ByteArray.empty, .string ByteArray.empty] 32)))
        clear hf HPt bo
        go_wp2_with (first | (at_lookup; refine wp_have _ rfl _ _ rfl B n f rfl (unhide HT) k rfl WF _ false HP HI ?_) | go_in)
        go_roundw
        case rel => exact ⟨k + 1, m, c, a, by go_num, by omega, by omega, by rw [unhide NX, Option.toList_none, List.append_nil]; exact P1⟩
        case measure => simp [intOf]; omega
      | some p =>
        obtain ⟨p0, p1, p2⟩ := p
        have HP : (f k).getD z0 = (p0, p1, p2) := by rw [hf]; rfl
        have HI : (f k).isSome = true := by rw [hf]; rfl
        rw [hf] at NX
        clear hf
        have P1 := hide (pt_step (unhide HPt) (one_more wr (.cells #[.int .i64 p0, .string p1, .string p2] 32)))
        have SA : (wr.alloc (.cells #[.int .i64 p0, .string p1, .string p2] 32)).heap.size = wr.heap.size + 1 := by simp
        have q0 : (wr.alloc (.cells #[.int .i64 p0, .string p1, .string p2] 32)).cell? ⟨wr.heap.size, 0, none⟩ = some (.int .i64 p0) := by simp [go_sem]
        have q1 : (wr.alloc (.cells #[.int .i64 p0, .string p1, .string p2] 32)).cell? ⟨wr.heap.size, 1, none⟩ = some (.string p1) := by simp [go_sem]
        have q2 : (wr.alloc (.cells #[.int .i64 p0, .string p1, .string p2] 32)).cell? ⟨wr.heap.size, 2, none⟩ = some (.string p2) := by simp [go_sem]
        have LC := hide (show ∀ j v, [Value.int .i64 p0, .string p1, .string p2][j]? = some v → ((wr.alloc (.cells #[.int .i64 p0, .string p1, .string p2] 32)).alloc (.cells #[.int .i64 p0, .string p1, .string p2] 32)).cell? ⟨wr.heap.size + 1, j, none⟩ = some v by
          have h := litm (wr.alloc (.cells #[.int .i64 p0, .string p1, .string p2] 32)) [.int .i64 p0, .string p1, .string p2] 32 _ rfl
          rw [SA] at h
          exact h)
        clear SA
        have bo1 := (unhide P1).bx.c1
        have vs1 := hide (unhide P1).gr.size
        have lo1 := (unhide P1).bx.lt.2
        clear HPt bo
        go_wp2_with (first | (at_lookup; refine wp_have _ rfl _ _ rfl B n f rfl (unhide HT) k rfl WF _ true HP HI ?_) | (at_builtin; refine wp_app _ rfl _ _ rfl W.heap.size (.slice a m c) m (flatF (rowN f k)) (wr.heap.size + 1) [.int .i64 p0, .string p1, .string p2] rfl rfl (row_step (unhide P1).ow (one_more _ (.cells #[.int .i64 p0, .string p1, .string p2] 32))) rfl (unhide LC) (by simp [Value.oneCell']) (by omega) (Nat.le_trans (unhide vs1) (by simp)) ?_; intro g8 c8 u8 o8 gr8; have PA := (unhide P1).app (p := (p0, p1, p2)) hO (one_more _ (.cells #[.int .i64 p0, .string p1, .string p2] 32)) gr8 o8; have bx8 := PA.1; have b80 := bx8.c1; have b81 := bx8.free 1; have P8 := hide PA.2; clear o8 gr8 PA bx8 bo1) | go_in)
        go_roundw
        case rel => exact ⟨k + 1, m + 1, c8, some ⟨g8, 0, none⟩, by go_num, by omega, by omega, by rw [unhide NX]; exact P8⟩
        case measure => simp [intOf]; omega
    · have e : k = 22 := by omega
      subst e
      have B0 := (unhide HPt).bx.c0
      have Rk := hide ((unhide HRB).kept (unhide HPt).gr (by simp))
      have e0 := (unhide Rk).free 0
      have e1 := (unhide Rk).free 1
      have r0 := (unhide Rk).c0
      have r1 := (unhide Rk).c1
      have LM := hide (show (rowN f 22).length = m by
        have := (unhide HPt).ow.1
        rw [flatF_len] at this
        omega)
      have t0 := (unhide Rk).set0 (.int .i64 room)
      have t1 := bc_set1 t0.1 (.slice a m c)
      have ST := hide (grow_grow t0.2 t1.2)
      have BB := hide (grow_low (unhide HBW) (unhide HPt).gr (by omega))
      clear t0 t1
      go_wp2
      refine bodyPost_ret (v := .agg #[.int .i64 room, .slice a m c]) (by simp [results, Try.results29, go_sem, r0, r1]) rfl ⟨⟨room, a, c, rowN f 22⟩, rfl, rfl, by simp [unhide LM], ?_, ?_⟩
      · unfold OwD
        simp only [unhide LM]
        exact row_base (row_kept (unhide HPt).ow (unhide ST) (by omega)) (by omega)
      · exact grow_low (unhide BB) (unhide ST) (by omega)
end Go.Proofs.Ytejbbhjhinkcdaa.IDk14
