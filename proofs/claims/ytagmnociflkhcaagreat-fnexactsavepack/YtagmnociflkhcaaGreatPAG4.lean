/- Texts of one proof, one behind the other: ISeal11, Con16, ISg15. -/
import Derived.Test.YtagmnociflkhcaaGreatRows
import Derived.Test.YtagmnociflkhcaaGreatPAG1
import Derived.Test.YtagmnociflkhcaaGreatPAG2
import Derived.Test.YtagmnociflkhcaaGreatPAG3
import Derived.Deep.RegionHeld3
set_option linter.unusedVariables false
set_option linter.unusedSimpArgs false
namespace Go.Proofs.YtagmnociflkhcaaGreat.ISeal11
open Go.ChangeShapes Go.WideShapes Go.ChangeAt Go.RowKit SBytes SPut11 SPuts11 SSeal11
open ByteH (Own At)
theorem lit_four (w : World) (a b c d : Int) : AtO (w.alloc (.cells #[.int .u8 a, .int .u8 b, .int .u8 c, .int .u8 d] 107)) w.heap.size 0 [a, b, c, d] := by
  intro i hi
  have : i = 0 ∨ i = 1 ∨ i = 2 ∨ i = 3 := by simp at hi; omega
  rcases this with rfl | rfl | rfl | rfl <;> simp
theorem numB_some (n : Nat) : (numB n).length ≠ 0 := by
  unfold numB
  rw [if_neg (by omega)]
  by_cases h : 127 < ((n : Int)).toNat
  · rw [numF_more h]; simp
  · rw [numF_last h]; simp
abbrev oS0 : Oper := { dst := some 11, op := Go.Op.move (Go.Operand.tmp 0), type := 63, pos := "l11_bytes.go:78", after := #[], guard := none }
abbrev oS1 : Oper := { dst := some 12, op := Go.Op.call { callee := Go.Callee.builtin Go.Builtin.len, args := #[Go.Operand.tmp 11], argTypes := #[63] }, type := 3, pos := "l11_bytes.go:78", after := #[{ on := 0, ground := Go.Ground.data }], guard := none }
abbrev oS2 : Oper := { dst := some 13, op := Go.Op.call { callee := Go.Callee.value (Go.Operand.func 31), args := #[Go.Operand.tmp 12], argTypes := #[3] }, type := 63, pos := "l11_bytes.go:78", after := #[{ on := 1, ground := Go.Ground.data }], guard := none }
abbrev oS3 : Oper := { dst := some 14, op := Go.Op.move (Go.Operand.tmp 0), type := 63, pos := "l11_bytes.go:78", after := #[], guard := none }
abbrev oS4 : Oper := { dst := some 15, op := Go.Op.slice 107 (Go.Operand.tmp 4) none none none, type := 63, pos := "l11_bytes.go:78", after := #[], guard := none }
abbrev oS5 : Oper := { dst := some 16, op := Go.Op.buildSlice 109 3 #[(0, Go.Operand.tmp 13), (1, Go.Operand.tmp 14), (2, Go.Operand.tmp 15)], type := 109, pos := "l11_bytes.go:78", after := #[{ on := 2, ground := Go.Ground.data }, { on := 3, ground := Go.Ground.data }, { on := 4, ground := Go.Ground.data }], guard := none }
abbrev oS6 : Oper := { dst := some 17, op := Go.Op.call { callee := Go.Callee.value (Go.Operand.func 30), args := #[Go.Operand.tmp 16], argTypes := #[109] }, type := 63, pos := "l11_bytes.go:78", after := #[{ on := 5, ground := Go.Ground.data }, { on := 2, ground := Go.Ground.chain }], guard := none }
abbrev oS7 : Oper := { dst := some 2, op := Go.Op.assign (Go.Operand.tmp 17), type := 63, pos := "l11_bytes.go:78", after := #[{ on := 6, ground := Go.Ground.data }, { on := 6, ground := Go.Ground.chain }, { on := 0, ground := Go.Ground.phase }, { on := 1, ground := Go.Ground.phase }, { on := 2, ground := Go.Ground.phase }, { on := 3, ground := Go.Ground.phase }, { on := 4, ground := Go.Ground.phase }, { on := 5, ground := Go.Ground.phase }, { on := 6, ground := Go.Ground.phase }], guard := none }
abbrev oS8 : Oper := { dst := some 3, op := Go.Op.assign (Go.Operand.const (Go.Value.bool true)), type := 4, pos := "l11_bytes.go:78", after := #[{ on := 7, ground := Go.Ground.chain }, { on := 0, ground := Go.Ground.phase }, { on := 1, ground := Go.Ground.phase }, { on := 2, ground := Go.Ground.phase }, { on := 3, ground := Go.Ground.phase }, { on := 4, ground := Go.Ground.phase }, { on := 5, ground := Go.Ground.phase }, { on := 6, ground := Go.Ground.phase }, { on := 7, ground := Go.Ground.phase }], guard := none }
set_option maxRecDepth 100000 in
set_option maxHeartbeats 4000000 in
theorem iSeal (w : World) (gl cl : Nat) (xs : List Int) (h20 : xs.length ≤ 1048576) (hg : gl < w.heap.size) (hr : AtB w gl xs) :
    Calls Tryz.prog 29 #[.slice (some ⟨gl, 0, none⟩) xs.length cl] w fun e w' => ∃ a c, e = .returned (.tuple #[.slice a (sealB xs).length c, .bool (decide (xs.length ≤ 9000))]) ∧ VOB.Ob w' w.heap.size a (sealB xs).length c (sealB xs) ∧ Below w.heap.size w w' := by
  by_cases h0 : xs.length ≤ 9000
  case neg =>
    have e : sealB xs = [] := if_neg h0
    rw [e]
    have O0 := hide (lit0 w w.heap.size (Nat.le_refl _) rfl)
    have B0 := hide (one_more w (.cells #[] 5))
    have h1 : (9000 : Int) < xs.length := by omega
    have D := hide (show decide (xs.length ≤ 9000) = false from by simp; omega)
    rw [unhide D]
    clear e h0 hr
    go_enter Tryz.func29, Tryz.ntmps29
    go_wp2
    go_ret2
    exact ⟨_, 0, rfl, .of (unhide O0), unhide B0⟩
  have S := hide (show numB xs.length ++ xs ++ four (chkB xs) = sealB xs from (if_pos h0).symm)
  have D := hide (show decide (xs.length ≤ 9000) = true from by simp; omega)
  rw [unhide D]
  have SM := hide (ISum11.iSum w gl 0 cl xs h20 hg (.of hr))
  have R := hide hr
  have HG := hide hg
  have NE := hide (numB_some xs.length)
  have nine := numB_nine (x := xs.length) (by omega)
  have h1 : ¬ (9000 : Int) < xs.length := by omega
  clear hr D
  go_enter Tryz.func29, Tryz.ntmps29
  go_wp2_with fail
  refine (unhide SM).mono ?_
  rintro e u ⟨rfl, b1⟩
  have S1 := hide (show numB xs.length ++ xs ++ [chkB xs % 256, chkB xs / 256 % 256, chkB xs / 65536 % 256, chkB xs / 16777216 % 256] = sealB xs from unhide S)
  have us := b1.size
  have B0 := hide b1
  clear S SM b1
  generalize chkB xs % 256 = y0 at *
  generalize chkB xs / 256 % 256 = y1 at *
  generalize chkB xs / 65536 % 256 = y2 at *
  generalize chkB xs / 16777216 % 256 = y3 at *
  have R2 := hide (((unhide R).below (unhide B0) (unhide HG)).below (one_more u (.cells #[.int .u8 y0, .int .u8 y1, .int .u8 y2, .int .u8 y3] 107)) (by omega))
  clear h1
  go_wp2
  refine wp_region_held_drew (S := (fun _ => True)) (by kernel_rfl) trivial (fun hHeld => ?_)
  refine wpAnyH_take (i := 0) (oi := oS0) (v := .slice (some ⟨gl, 0, none⟩) xs.length cl) rfl (by kernel_rfl) (by kernel_rfl) (by kernel_rfl) (fun _ _ _ h => h) (Or.inl ⟨by rfl, fun w hSw => ?_⟩) hHeld ?_
  · (try dsimp only at hSw)
    unfold oS0
    go_simp
  try simp only [oS0, Act.put, List.setIfInBounds_toArray, List.set_cons_zero, List.set_cons_succ]
  refine wpAnyH_take (i := 1) (oi := oS1) (v := .int .i64 xs.length) rfl (by kernel_rfl) (by kernel_rfl) (by kernel_rfl) (fun _ _ _ h => h) (Or.inl ⟨by rfl, fun w hSw => ?_⟩) hHeld ?_
  · (try dsimp only at hSw)
    unfold oS1
    go_simp
  try simp only [oS1, Act.put, List.setIfInBounds_toArray, List.set_cons_zero, List.set_cons_succ]
  refine wpAnyH_take (i := 3) (oi := oS3) (v := .slice (some ⟨gl, 0, none⟩) xs.length cl) rfl (by kernel_rfl) (by kernel_rfl) (by kernel_rfl) (fun _ _ _ h => h) (Or.inl ⟨by rfl, fun w hSw => ?_⟩) hHeld ?_
  · (try dsimp only at hSw)
    unfold oS3
    go_simp
  try simp only [oS3, Act.put, List.setIfInBounds_toArray, List.set_cons_zero, List.set_cons_succ]
  refine wpAnyH_take (i := 4) (oi := oS4) (v := .slice (some ⟨u.heap.size, 0, none⟩) 4 4) rfl (by kernel_rfl) (by kernel_rfl) (by kernel_rfl) (fun _ _ _ h => h) (Or.inl ⟨by rfl, fun w hSw => ?_⟩) hHeld ?_
  · (try dsimp only at hSw)
    unfold oS4
    go_simp
  try simp only [oS4, Act.put, List.setIfInBounds_toArray, List.set_cons_zero, List.set_cons_succ]
  refine wpAnyH_ready (rs := [2]) (by kernel_rfl) (by simp) ?_
  refine AllReadyH.cons (o := oS2) rfl (fun K hK => ?_) AllReadyH.nil
  unfold oS2
  go_simp
  go_wp2_with fail
  refine (IPut11.iPutNum _ xs.length (by omega)).mono ?_
  rintro e u1 ⟨a1, c1, rfl, o1, bb⟩
  obtain ⟨g1, rfl, q1⟩ : ∃ g, a1 = some ⟨g, 0, none⟩ ∧ Own u1 u.heap.size g (numB xs.length).length c1 (numB xs.length) := by
    rcases o1.either with ⟨_, h, _⟩ | ⟨g, h, o⟩
    · exact absurd h (unhide NE)
    · exact ⟨g, h, o.mono (by simp [World.drew])⟩
  have B1 := hide (show Below (u.heap.size + 1) (u.alloc (.cells #[.int .u8 y0, .int .u8 y1, .int .u8 y2, .int .u8 y3] 107)) u1 from by
    have h := bb.mono (B' := u.heap.size + 1) (by simp [World.drew])
    exact ⟨h.os, h.tape, h.output, h.size, h.block⟩)
  have O1 := hide q1
  have us1 := bb.size
  rw [show (u.alloc (.cells #[.int .u8 y0, .int .u8 y1, .int .u8 y2, .int .u8 y3] 107)).drew.heap.size = u.heap.size + 1 by simp [World.drew]] at us1
  clear bb o1 q1
  go_wp2_with fail
  refine hK.out _ _ trivial (fun hHeld => ?_)
  clear hK K
  try simp only [oS2, Act.put, List.setIfInBounds_toArray, List.set_cons_zero, List.set_cons_succ]
  refine wpAnyH_ready (rs := [5]) (by kernel_rfl) (by simp) ?_
  refine AllReadyH.cons (o := oS5) rfl (fun K hK => ?_) AllReadyH.nil
  unfold oS5
  go_simp
  refine hK.out _ _ trivial (fun hHeld => ?_)
  clear hK K
  try simp only [oS5, Act.put, List.setIfInBounds_toArray, List.set_cons_zero, List.set_cons_succ]
  refine wpAnyH_ready (rs := [6]) (by kernel_rfl) (by simp) ?_
  refine AllReadyH.cons (o := oS6) rfl (fun K hK => ?_) AllReadyH.nil
  unfold oS6
  go_simp
  have A1 := hide (own_alloc (unhide O1) (.cells #[.slice (some ⟨g1, 0, none⟩) (numB xs.length).length c1, .slice (some ⟨gl, 0, none⟩) xs.length cl, .slice (some ⟨u.heap.size, 0, none⟩) 4 4] 63))
  have CB := hide (ConB11.iConcat (u1.alloc (.cells #[.slice (some ⟨g1, 0, none⟩) (numB xs.length).length c1, .slice (some ⟨gl, 0, none⟩) xs.length cl, .slice (some ⟨u.heap.size, 0, none⟩) 4 4] 63)) u1.heap.size g1 0 (numB xs.length).length c1 gl 0 xs.length cl u.heap.size 0 4 4 (numB xs.length) xs [y0, y1, y2, y3] rfl rfl rfl (by omega) (by simp) (Nat.lt_of_lt_of_le (unhide O1).lt.2 (by simp)) (by simp; omega) (by simp; omega) (AtO.of (unhide A1).at) (AtO.of (fun i hi => (((unhide R2).below (unhide B1) (by omega)).below (one_more u1 _) (by omega) i hi).1)) (ConB11.AtO.below (ConB11.AtO.below (lit_four u y0 y1 y2 y3) (unhide B1) (by omega)) (one_more u1 _) (by omega)) (by simp) (by simp) (by simp))
  go_wp2_with fail
  refine (unhide CB).mono ?_
  rintro e u2 ⟨v2, rfl, o2, b2⟩
  obtain ⟨a2, c2, rfl, q2⟩ := o2.ob
  have O2 := hide q2
  have B2 := hide b2
  clear o2 q2 b2 CB
  go_wp2_with fail
  refine hK.out _ _ trivial (fun hHeld => ?_)
  clear hK K
  try simp only [oS6, Act.put, List.setIfInBounds_toArray, List.set_cons_zero, List.set_cons_succ]
  refine wpAnyH_take (i := 7) (oi := oS7) (v := .slice a2 (numB xs.length ++ (xs ++ [y0, y1, y2, y3])).length c2) rfl (by kernel_rfl) (by kernel_rfl) (by kernel_rfl) (fun _ _ _ h => h) (Or.inl ⟨by rfl, fun w hSw => ?_⟩) hHeld ?_
  · (try dsimp only at hSw)
    unfold oS7
    go_simp
  try simp only [oS7, Act.put, List.setIfInBounds_toArray, List.set_cons_zero, List.set_cons_succ]
  refine wpAnyH_take (i := 8) (oi := oS8) (v := .bool true) rfl (by kernel_rfl) (by kernel_rfl) (by kernel_rfl) (fun _ _ _ h => h) (Or.inl ⟨by rfl, fun w hSw => ?_⟩) hHeld ?_
  · (try dsimp only at hSw)
    unfold oS8
    go_simp
  try simp only [oS8, Act.put, List.setIfInBounds_toArray, List.set_cons_zero, List.set_cons_succ]
  refine wpAnyH_done (by kernel_rfl) ?_ _
  have B9 := hide (show Below w.heap.size w u2 from (((unhide B0).alloc (unhide B0).size (.cells #[.int .u8 y0, .int .u8 y1, .int .u8 y2, .int .u8 y3] 107)).trans ((unhide B1).mono (by have := (unhide B0).size; omega))).trans (((one_more u1 _).mono (by have := (unhide B0).size; omega)).trans ((unhide B2).mono (by have := (unhide B0).size; simp; omega))))
  go_wp2
  go_ret2
  have e := unhide S1
  rw [List.append_assoc] at e
  refine ⟨a2, c2, ?_, ?_, unhide B9⟩
  · rw [← e]; rfl
  · rw [← e]; exact (unhide O2).mono (by have := (unhide B0).size; simp; omega)
end Go.Proofs.YtagmnociflkhcaaGreat.ISeal11
namespace Go.Proofs.YtagmnociflkhcaaGreat.Con16
open Go.ChangeShapes Go.WideShapes Go.ChangeAt Go.RowKit SBytes SPut11 ConB11
open ByteH (Own At info8)
set_option maxRecDepth 100000 in
set_option maxHeartbeats 4000000 in
theorem iConcat2 (w : World) (b g1 o1 n1 c1 g2 o2 n2 c2 : Nat) (p1 p2 : List Int) (l1 : p1.length = n1) (l2 : p2.length = n2) (h20 : n1 + n2 ≤ 1048576)
    (hb : b < w.heap.size) (q1 : g1 < w.heap.size) (q2 : g2 < w.heap.size) (a1 : AtO w g1 o1 p1) (a2 : AtO w g2 o2 p2)
    (s1 : w.cell? ⟨b, 0, none⟩ = some (.slice (some ⟨g1, o1, none⟩) n1 c1)) (s2 : w.cell? ⟨b, 1, none⟩ = some (.slice (some ⟨g2, o2, none⟩) n2 c2)) :
    Calls Tryz.prog 30 #[.slice (some ⟨b, 0, none⟩) 2 2] w fun e w' => ∃ v, e = .returned v ∧ OwnV w' w.heap.size v (p1 ++ p2) ∧ Below w.heap.size w w' := by
  have A1 := hide a1
  have A2 := hide a2
  clear a1 a2
  go_enter Tryz.func30, Tryz.ntmps30
  go_wp2
  go_loop [3, 5, 11] (fun q _ j => ∃ (k : Nat) (z : Int), j = .int .i64 k ∧ q = .int .i64 z ∧ ((k = 0 ∧ z = 0) ∨ (k = 1 ∧ z = (n1 : Int)) ∨ (k = 2 ∧ z = (n1 : Int) + (n2 : Int)))) (fun _ _ j => 2 - (intOf j).toNat)
  case atStart => exact ⟨0, 0, rfl, rfl, .inl ⟨rfl, rfl⟩⟩
  case round =>
    obtain ⟨k, z, rfl, rfl, hk⟩ := hrel
    rcases hk with ⟨rfl, rfl⟩ | ⟨rfl, rfl⟩ | ⟨rfl, rfl⟩
    · go_wp2
      go_round
      case rel => exact ⟨1, (n1 : Int), by go_num, by go_num, .inr (.inl ⟨rfl, rfl⟩)⟩
      case measure => simp [intOf]
    · go_wp2
      go_round
      case rel => exact ⟨2, (n1 : Int) + (n2 : Int), by go_num, by go_num, .inr (.inr ⟨rfl, rfl⟩)⟩
      case measure => simp [intOf]
    · have GR := hide (show Calls Tryz.prog 67 #[.slice none 0 0, .int .i64 ((n1 : Int) + (n2 : Int))] w fun e w' => ∃ v, e = .returned v ∧ OwnV w' w.heap.size v [] ∧ Below w.heap.size w w' from by
        by_cases z : n1 + n2 = 0
        · rw [show (n1 : Int) + (n2 : Int) = 0 by omega]
          exact (grow_none w).mono fun _ _ ⟨he, hb⟩ => ⟨_, he, OwnV.nil _ _, hb⟩
        · have := grow_some w (n1 + n2) (by omega) h20
          rw [show ((n1 + n2 : Nat) : Int) = (n1 : Int) + (n2 : Int) by omega] at this
          exact this)
      go_wp2_with fail
      refine (unhide GR).mono ?_
      rintro e w1 ⟨v, rfl, ov, b1⟩
      have OV := hide ov
      have B1 := hide b1
      clear ov b1 GR
      go_wp2
      go_loopw [6, 8, 27] (fun x _ j wr => ∃ (k : Nat) (v : Value) (out : List Int), j = .int .i64 k ∧ v = x ∧ Hid (OwnV wr w.heap.size v out) ∧ Hid (Below w.heap.size w wr) ∧ ((k = 0 ∧ out = []) ∨ (k = 1 ∧ p1 = out) ∨ (k = 2 ∧ out = p1 ++ p2))) (fun _ _ j _ => 2 - (intOf j).toNat)
      case atStart => exact ⟨0, v, [], rfl, rfl, OV, B1, .inl ⟨rfl, rfl⟩⟩
      case round =>
      clear OV B1
      obtain ⟨k, v, out, rfl, rfl, OV, HB, hk⟩ := hrel
      rcases hk with ⟨rfl, rfl⟩ | ⟨rfl, rfl⟩ | ⟨rfl, rfl⟩
      · have s : wr.cell? ⟨b, 0, none⟩ = some (.slice (some ⟨g1, o1, none⟩) n1 c1) := ((unhide HB).cell (p := ⟨b, 0, none⟩) hb).trans s1
        have A := hide (AtO.below (unhide A1) (unhide HB) q1)
        have bs := (unhide HB).size
        have LN := hide (show ([] : List Int).length + n1 ≤ 1048576 from by (try simp); omega)
        go_wp2_with (first | (at_builtin; refine wp_catV _ rfl _ _ rfl w.heap.size n1 v ([] : List Int) p1 g1 o1 c1 rfl rfl (unhide OV) l1 (unhide A) (unhide LN) bs ?_) | go_in)
        intro v5 w5 ov5 gr5 loc5
        have O5 := hide (show OwnV w5 w.heap.size v5 (p1) from by have := ov5; exact this)
        have B5 := hide ((unhide HB).grown gr5 bs (fun j hj => ((unhide OV).lt j hj).1))
        clear ov5 gr5 loc5 A s
        go_wp2
        go_roundw
        case rel => exact ⟨1, v5, p1, by go_num, rfl, O5, B5, .inr (.inl ⟨rfl, rfl⟩)⟩
        case measure => simp [intOf]
      · have s : wr.cell? ⟨b, 1, none⟩ = some (.slice (some ⟨g2, o2, none⟩) n2 c2) := ((unhide HB).cell (p := ⟨b, 1, none⟩) hb).trans s2
        have A := hide (AtO.below (unhide A2) (unhide HB) q2)
        have bs := (unhide HB).size
        have LN := hide (show (p1).length + n2 ≤ 1048576 from by (try simp); omega)
        go_wp2_with (first | (at_builtin; refine wp_catV _ rfl _ _ rfl w.heap.size n2 v (p1) p2 g2 o2 c2 rfl rfl (unhide OV) l2 (unhide A) (unhide LN) bs ?_) | go_in)
        intro v5 w5 ov5 gr5 loc5
        have O5 := hide (show OwnV w5 w.heap.size v5 (p1 ++ p2) from by have := ov5; exact this)
        have B5 := hide ((unhide HB).grown gr5 bs (fun j hj => ((unhide OV).lt j hj).1))
        clear ov5 gr5 loc5 A s
        go_wp2
        go_roundw
        case rel => exact ⟨2, v5, p1 ++ p2, by go_num, rfl, O5, B5, .inr (.inr ⟨rfl, rfl⟩)⟩
        case measure => simp [intOf]
      · go_wp2
        go_ret
        exact ⟨_, rfl, unhide OV, unhide HB⟩
end Go.Proofs.YtagmnociflkhcaaGreat.Con16
namespace Go.Proofs.YtagmnociflkhcaaGreat.ISg15
open Go.ChangeShapes Go.WideShapes Go.ChangeAt Go.RowKit Fil14 DiskH14 DkH14 SDk14 SOk14 SegP15
set_option maxRecDepth 100000 in
theorem iSeg (w : World) (n : Int) : Calls Tryz.prog 28 #[.int .i64 n] w fun e w' => e = .returned (.bool (okS n)) ∧ w' = w := by
  unfold okS
  by_cases h0 : 0 ≤ n
  · by_cases h1 : n ≤ 19
    · rw [decide_eq_true ⟨h0, h1⟩]
      have a : n ≥ 0 := h0
      have b : n < 20 := by omega
      clear h1
      go_enter Tryz.func28, Tryz.ntmps28
      go_wp2
      go_ret
      exact ⟨rfl, rfl⟩
    · rw [decide_eq_false (fun q => h1 q.2)]
      have a : n ≥ 0 := h0
      have b : ¬ n < 20 := by omega
      clear h1
      go_enter Tryz.func28, Tryz.ntmps28
      go_wp2
      go_ret
      exact ⟨rfl, rfl⟩
  · rw [decide_eq_false (fun q => h0 q.1)]
    have a : ¬ n ≥ 0 := h0
    go_enter Tryz.func28, Tryz.ntmps28
    go_wp2
    go_ret
    exact ⟨rfl, rfl⟩
theorem iSegOk (w : World) (n : Int) (b : Bool) (h : okS n = b) : Calls Tryz.prog 28 #[.int .i64 n] w fun e w' => e = .returned (.bool b) ∧ w' = w := by
  rw [← h]
  exact iSeg w n
end Go.Proofs.YtagmnociflkhcaaGreat.ISg15
