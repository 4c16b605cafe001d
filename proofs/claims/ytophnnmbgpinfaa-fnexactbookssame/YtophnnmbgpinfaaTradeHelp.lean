/- Contracts of the laws' own helpers on lists of structs of 8 numbers (Trade): a copy is a new list of the same elements, equal lists are told equal, a marked list holds the marks. Conditions: lists of at most 2^20 elements. -/
import Derived.Test.YtophnnmbgpinfaaTup8
import Derived.Deep.RegionHeld3
namespace Go.Proofs.Ytophnnmbgpinfaa.TradeHelp
open Go.ChangeShapes Go.WideShapes Go.ChangeAt Go.RowKit Tup8
set_option linter.unusedVariables false
set_option linter.unusedSimpArgs false

theorem info2 : (Try.prog.info? 76).map (fun i => (i.zero, i.size, i.bytes)) = some (some (.agg #[.int .i64 0, .int .i64 0, .int .i64 0, .int .i64 0, .int .i64 0, .int .i64 0, .int .i64 0, .int .i64 0]), 8, 64) := by kernel_rfl

set_option maxRecDepth 100000 in
theorem to1 (w : World) (x0 x1 x2 x3 x4 x5 x6 x7 : Int) : Calls Try.prog 50 #[.agg #[.int .i64 x0, .int .i64 x1, .int .i64 x2, .int .i64 x3, .int .i64 x4, .int .i64 x5, .int .i64 x6, .int .i64 x7]] w fun e w' => e = .returned (.agg #[.int .i64 x0, .int .i64 x1, .int .i64 x2, .int .i64 x3, .int .i64 x4, .int .i64 x5, .int .i64 x6, .int .i64 x7]) ∧ Below w.heap.size w w' := by
  go_enter Try.func50, Try.ntmps50
  go_wp2
  refine bodyPost_ret (v := .agg #[.int .i64 x0, .int .i64 x1, .int .i64 x2, .int .i64 x3, .int .i64 x4, .int .i64 x5, .int .i64 x6, .int .i64 x7]) (by simp [results, Try.results50, go_sem]) rfl ⟨rfl, ?_⟩
  exact (((Below.refl _ _).alloc (Nat.le_refl _) _).alloc (by simp) _).alloc (by simp; omega) _

theorem made (n : Nat) : (madeCells (Value.agg #[.int .i64 0, .int .i64 0, .int .i64 0, .int .i64 0, .int .i64 0, .int .i64 0, .int .i64 0, .int .i64 0]).cells (n * 8)).toList = flat8 (List.replicate n (0, 0, 0, 0, 0, 0, 0, 0)) := by
  apply List.ext_getElem?
  intro j
  by_cases hj : j < n * 8
  · have hs : (Value.agg #[Value.int .i64 0, Value.int .i64 0, Value.int .i64 0, Value.int .i64 0, Value.int .i64 0, Value.int .i64 0, Value.int .i64 0, Value.int .i64 0]).cells = #[Value.int .i64 0, Value.int .i64 0, Value.int .i64 0, Value.int .i64 0, Value.int .i64 0, Value.int .i64 0, Value.int .i64 0, Value.int .i64 0] := rfl
    rw [hs]
    obtain ⟨f0, f1, f2, f3, f4, f5, f6, f7⟩ := flat8_get (List.replicate n (0, 0, 0, 0, 0, 0, 0, 0)) (j / 8) (by simp; omega)
    have hg : (List.replicate n (((0 : Int), (0 : Int), (0 : Int), (0 : Int), (0 : Int), (0 : Int), (0 : Int), (0 : Int)) : T8)).getD (j / 8) (0, 0, 0, 0, 0, 0, 0, 0) = (0, 0, 0, 0, 0, 0, 0, 0) := by simp [List.getD, show j / 8 < n by omega]
    unfold el8 at f0 f1 f2 f3 f4 f5 f6 f7
    rw [hg] at f0 f1 f2 f3 f4 f5 f6 f7
    rcases (show j % 8 = 0 ∨ j % 8 = 1 ∨ j % 8 = 2 ∨ j % 8 = 3 ∨ j % 8 = 4 ∨ j % 8 = 5 ∨ j % 8 = 6 ∨ j % 8 = 7 by omega) with e | e | e | e | e | e | e | e
    · rw [show j / 8 * 8 = j by omega] at f0
      rw [f0]
      simp [madeCells, hj, e]
    · rw [show j / 8 * 8 + 1 = j by omega] at f1
      rw [f1]
      simp [madeCells, hj, e]
    · rw [show j / 8 * 8 + 2 = j by omega] at f2
      rw [f2]
      simp [madeCells, hj, e]
    · rw [show j / 8 * 8 + 3 = j by omega] at f3
      rw [f3]
      simp [madeCells, hj, e]
    · rw [show j / 8 * 8 + 4 = j by omega] at f4
      rw [f4]
      simp [madeCells, hj, e]
    · rw [show j / 8 * 8 + 5 = j by omega] at f5
      rw [f5]
      simp [madeCells, hj, e]
    · rw [show j / 8 * 8 + 6 = j by omega] at f6
      rw [f6]
      simp [madeCells, hj, e]
    · rw [show j / 8 * 8 + 7 = j by omega] at f7
      rw [f7]
      simp [madeCells, hj, e]
  · rw [List.getElem?_eq_none (by simp [madeCells]; omega), List.getElem?_eq_none (by rw [flat8_len]; simp; omega)]

/-- The elements so far, and zeros behind. -/
def part (ps : List T8) (n k : Nat) : List T8 := ps.take k ++ List.replicate (n - k) (0, 0, 0, 0, 0, 0, 0, 0)

theorem part_zero (ps : List T8) (n : Nat) : part ps n 0 = List.replicate n (0, 0, 0, 0, 0, 0, 0, 0) := by simp [part]
theorem part_all (ps : List T8) (n : Nat) (h : ps.length = n) : part ps n n = ps := by
  unfold part
  rw [← h]; simp

theorem part_step (ps : List T8) (n k : Nat) (h : ps.length = n) (hk : k < n) : ((((((((part ps n k).modify k (fun p => ((el8 ps k).1, p.2.1, p.2.2.1, p.2.2.2.1, p.2.2.2.2.1, p.2.2.2.2.2.1, p.2.2.2.2.2.2.1, p.2.2.2.2.2.2.2))).modify k (fun p => (p.1, (el8 ps k).2.1, p.2.2.1, p.2.2.2.1, p.2.2.2.2.1, p.2.2.2.2.2.1, p.2.2.2.2.2.2.1, p.2.2.2.2.2.2.2))).modify k (fun p => (p.1, p.2.1, (el8 ps k).2.2.1, p.2.2.2.1, p.2.2.2.2.1, p.2.2.2.2.2.1, p.2.2.2.2.2.2.1, p.2.2.2.2.2.2.2))).modify k (fun p => (p.1, p.2.1, p.2.2.1, (el8 ps k).2.2.2.1, p.2.2.2.2.1, p.2.2.2.2.2.1, p.2.2.2.2.2.2.1, p.2.2.2.2.2.2.2))).modify k (fun p => (p.1, p.2.1, p.2.2.1, p.2.2.2.1, (el8 ps k).2.2.2.2.1, p.2.2.2.2.2.1, p.2.2.2.2.2.2.1, p.2.2.2.2.2.2.2))).modify k (fun p => (p.1, p.2.1, p.2.2.1, p.2.2.2.1, p.2.2.2.2.1, (el8 ps k).2.2.2.2.2.1, p.2.2.2.2.2.2.1, p.2.2.2.2.2.2.2))).modify k (fun p => (p.1, p.2.1, p.2.2.1, p.2.2.2.1, p.2.2.2.2.1, p.2.2.2.2.2.1, (el8 ps k).2.2.2.2.2.2.1, p.2.2.2.2.2.2.2))).modify k (fun p => (p.1, p.2.1, p.2.2.1, p.2.2.2.1, p.2.2.2.2.1, p.2.2.2.2.2.1, p.2.2.2.2.2.2.1, (el8 ps k).2.2.2.2.2.2.2)) = part ps n (k + 1) := by
  subst h
  unfold part
  apply List.ext_getElem?
  intro j
  have l1 : (ps.take k).length = k := by simp; omega
  have l2 : (ps.take (k + 1)).length = k + 1 := by simp; omega
  rw [List.getElem?_modify, List.getElem?_modify, List.getElem?_modify, List.getElem?_modify, List.getElem?_modify, List.getElem?_modify, List.getElem?_modify, List.getElem?_modify]
  by_cases e : k = j
  · subst e
    rw [List.getElem?_append_right (by omega), List.getElem?_append_left (by omega), List.getElem?_take, if_pos (by omega), l1]
    simp [List.getD, hk, show 0 < ps.length - k by omega]
  · by_cases l : j < k
    · rw [List.getElem?_append_left (by omega), List.getElem?_append_left (by omega), List.getElem?_take, List.getElem?_take, if_pos l, if_pos (by omega)]
      simp [e]
    · rw [List.getElem?_append_right (by omega), List.getElem?_append_right (by omega), l1, l2]
      simp only [List.getElem?_replicate]
      by_cases m : j < ps.length
      · rw [if_pos (by omega), if_pos (by omega)]; simp [e]
      · rw [if_neg (by omega), if_neg (by omega)]; simp [e]

set_option maxRecDepth 100000 in
set_option maxHeartbeats 1000000 in
theorem toS (w : World) (a : Option Addr) (len cap : Nat) (ps : List T8) (hl : ps.length = len) (h20 : len ≤ 1048576) (hr : Reads8 w a ps) :
    Calls Try.prog 34 #[.slice a len cap] w fun e w' => e = .returned (.slice (some ⟨w.heap.size, 0, none⟩) len len) ∧ Own8 76 w' w.heap.size w.heap.size len len ps ∧ Below w.heap.size w w' := by
  obtain ⟨i0, hi, hz0, hz1, hz2⟩ := info_parts info2
  go_enter Try.func34, Try.ntmps34
  go_wp2_with (at_make; refine wpList_make_full _ rfl _ _ 46 rfl w.heap.size 76 i0 (.agg #[.int .i64 0, .int .i64 0, .int .i64 0, .int .i64 0, .int .i64 0, .int .i64 0, .int .i64 0, .int .i64 0]) 8 Try.underlying46 hi hz0 hz1 .i64 .i64 _ _ len rfl rfl rfl rfl (by rw [hz2]; omega) (by unfold maxLen; omega) (Nat.le_refl _) ?_; intro w1 hown hgrow)
  rw [made, ← part_zero ps] at hown
  have hb := grownBy_below hgrow
  have hown : Own8 76 w1 w.heap.size w.heap.size len len (part ps len 0) := hown
  clear hgrow
  go_loopw [4] (fun i wr => ∃ (k : Nat), k ≤ len ∧ i = .int .i64 k ∧ Own8 76 wr w.heap.size w.heap.size len len (part ps len k) ∧ Below w.heap.size w wr) (fun i _ => len - (intOf i).toNat)
  case atStart => exact ⟨0, by omega, rfl, hown, hb⟩
  case round =>
    clear hown hb
    obtain ⟨k, hk, rfl, hown, hb⟩ := hrel
    by_cases t : k < len
    · rcases hr with hz | ⟨b, off, rfl, hlt, hcell⟩
      · omega
      have hc0 := (hb.cell (p := ⟨b, off + k * 8, none⟩) hlt).trans (hcell k (by omega)).1
      have hc1 := (hb.cell (p := ⟨b, off + k * 8 + 1, none⟩) hlt).trans (hcell k (by omega)).2.1
      have hc2 := (hb.cell (p := ⟨b, off + k * 8 + 2, none⟩) hlt).trans (hcell k (by omega)).2.2.1
      have hc3 := (hb.cell (p := ⟨b, off + k * 8 + 3, none⟩) hlt).trans (hcell k (by omega)).2.2.2.1
      have hc4 := (hb.cell (p := ⟨b, off + k * 8 + 4, none⟩) hlt).trans (hcell k (by omega)).2.2.2.2.1
      have hc5 := (hb.cell (p := ⟨b, off + k * 8 + 5, none⟩) hlt).trans (hcell k (by omega)).2.2.2.2.2.1
      have hc6 := (hb.cell (p := ⟨b, off + k * 8 + 6, none⟩) hlt).trans (hcell k (by omega)).2.2.2.2.2.2.1
      have hc7 := (hb.cell (p := ⟨b, off + k * 8 + 7, none⟩) hlt).trans (hcell k (by omega)).2.2.2.2.2.2.2
      clear hcell
      have HO := hide hown
      have HB := hide hb
      clear hown hb
      have PS := hide (part_step ps len k hl t)
      generalize (el8 ps k).1 = x0 at *
      generalize (el8 ps k).2.1 = x1 at *
      generalize (el8 ps k).2.2.1 = x2 at *
      generalize (el8 ps k).2.2.2.1 = x3 at *
      generalize (el8 ps k).2.2.2.2.1 = x4 at *
      generalize (el8 ps k).2.2.2.2.2.1 = x5 at *
      generalize (el8 ps k).2.2.2.2.2.2.1 = x6 at *
      generalize (el8 ps k).2.2.2.2.2.2.2 = x7 at *
      go_wp2_with fail
      refine (to1 _ x0 x1 x2 x3 x4 x5 x6 x7).mono ?_
      rintro e w2 ⟨rfl, b2⟩
      have o2 := (unhide HO).below b2 (unhide HO).lt.2
      have hb2 := (unhide HB).trans (b2.mono (unhide HB).size)
      clear HO HB b2 hc0 hc1 hc2 hc3 hc4 hc5 hc6 hc7
      have hs0 := o2.set0 k x0
      have hs1 := hs0.1.set1 k x1
      have hs2 := hs1.1.set2 k x2
      have hs3 := hs2.1.set3 k x3
      have hs4 := hs3.1.set4 k x4
      have hs5 := hs4.1.set5 k x5
      have hs6 := hs5.1.set6 k x6
      have hs7 := hs6.1.set7 k x7
      have hd := o2.at k (by rw [o2.len]; exact t)
      have hd0 := hd.1
      have hd1 := hd.2.1
      have hd2 := hd.2.2.1
      have hd3 := hd.2.2.2.1
      have hd4 := hd.2.2.2.2.1
      have hd5 := hd.2.2.2.2.2.1
      have hd6 := hd.2.2.2.2.2.2.1
      have hd7 := hd.2.2.2.2.2.2.2
      have hf0 := o2.free (k * 8)
      have hf1 := o2.free (k * 8 + 1)
      have hf2 := o2.free (k * 8 + 2)
      have hf3 := o2.free (k * 8 + 3)
      have hf4 := o2.free (k * 8 + 4)
      have hf5 := o2.free (k * 8 + 5)
      have hf6 := o2.free (k * 8 + 6)
      have hf7 := o2.free (k * 8 + 7)
      have HS := hide hs7.1
      have HB := hide ((((((((hb2.setCell (p := ⟨w.heap.size, k * 8, none⟩) (Nat.le_refl _) (.int .i64 x0)).setCell (p := ⟨w.heap.size, k * 8 + 1, none⟩) (Nat.le_refl _) (.int .i64 x1)).setCell (p := ⟨w.heap.size, k * 8 + 2, none⟩) (Nat.le_refl _) (.int .i64 x2)).setCell (p := ⟨w.heap.size, k * 8 + 3, none⟩) (Nat.le_refl _) (.int .i64 x3)).setCell (p := ⟨w.heap.size, k * 8 + 4, none⟩) (Nat.le_refl _) (.int .i64 x4)).setCell (p := ⟨w.heap.size, k * 8 + 5, none⟩) (Nat.le_refl _) (.int .i64 x5)).setCell (p := ⟨w.heap.size, k * 8 + 6, none⟩) (Nat.le_refl _) (.int .i64 x6)).setCell (p := ⟨w.heap.size, k * 8 + 7, none⟩) (Nat.le_refl _) (.int .i64 x7))
      clear hs0 hs1 hs2 hs3 hs4 hs5 hs6 hs7 hd o2 hb2
      go_wp2
      go_roundw
      case rel =>
        have o := unhide HS
        rw [unhide PS] at o
        exact ⟨k + 1, by omega, by go_num, o, unhide HB⟩
      case measure => simp [intOf]; omega
    · obtain rfl : k = len := by omega
      rw [part_all ps k hl] at hown
      have HO := hide hown
      have HB := hide hb
      clear hown hb hr
      go_wp2
      go_ret
      exact ⟨rfl, unhide HO, unhide HB⟩

set_option maxRecDepth 100000 in
theorem eq1 (w : World) (x0 x1 x2 x3 x4 x5 x6 x7 : Int) : Calls Try.prog 55 #[.agg #[.int .i64 x0, .int .i64 x1, .int .i64 x2, .int .i64 x3, .int .i64 x4, .int .i64 x5, .int .i64 x6, .int .i64 x7], .agg #[.int .i64 x0, .int .i64 x1, .int .i64 x2, .int .i64 x3, .int .i64 x4, .int .i64 x5, .int .i64 x6, .int .i64 x7]] w fun e w' => e = .returned (.bool true) ∧ w' = (w.alloc (.cells #[.int .i64 x0, .int .i64 x1, .int .i64 x2, .int .i64 x3, .int .i64 x4, .int .i64 x5, .int .i64 x6, .int .i64 x7] 76)).alloc (.cells #[.int .i64 x0, .int .i64 x1, .int .i64 x2, .int .i64 x3, .int .i64 x4, .int .i64 x5, .int .i64 x6, .int .i64 x7] 76) := by
  go_enter Try.func55, Try.ntmps55
  go_wp2
  go_ret
  exact ⟨rfl, rfl⟩

theorem two_more (w : World) (o p : Obj) : Below w.heap.size w ((w.alloc o).alloc p).drew := (((Below.refl _ _).alloc (Nat.le_refl _) _).alloc (by simp) _).drew

set_option maxRecDepth 100000 in
set_option maxHeartbeats 1000000 in
theorem eqS (w : World) (g1 g2 n c1 c2 : Nat) (ps : List T8) (hl : ps.length = n) (h20 : n ≤ 1048576) (l1 : g1 < w.heap.size) (l2 : g2 < w.heap.size) (h1 : At8 w g1 ps) (h2 : At8 w g2 ps) :
    Calls Try.prog 44 #[.slice (some ⟨g1, 0, none⟩) n c1, .slice (some ⟨g2, 0, none⟩) n c2] w fun e w' => e = .returned (.bool true) ∧ Below w.heap.size w w' := by
  go_enter Try.func44, Try.ntmps44
  go_wp2
  go_loopw [5] (fun i wr => ∃ (k : Nat), k ≤ n ∧ i = .int .i64 k ∧ At8 wr g1 ps ∧ At8 wr g2 ps ∧ Below w.heap.size w wr) (fun i _ => n - (intOf i).toNat)
  case atStart => exact ⟨0, by omega, rfl, h1, h2, Below.refl _ _⟩
  case round =>
    clear h1 h2
    obtain ⟨k, hk, rfl, h1, h2, hb⟩ := hrel
    by_cases t : k < n
    · obtain ⟨e0, e1, e2, e3, e4, e5, e6, e7⟩ := h1 k (by omega)
      obtain ⟨f0, f1, f2, f3, f4, f5, f6, f7⟩ := h2 k (by omega)
      have s := hb.size
      have H1 := hide h1
      have H2 := hide h2
      have HB := hide hb
      clear h1 h2 hb
      generalize (el8 ps k).1 = x0 at *
      generalize (el8 ps k).2.1 = x1 at *
      generalize (el8 ps k).2.2.1 = x2 at *
      generalize (el8 ps k).2.2.2.1 = x3 at *
      generalize (el8 ps k).2.2.2.2.1 = x4 at *
      generalize (el8 ps k).2.2.2.2.2.1 = x5 at *
      generalize (el8 ps k).2.2.2.2.2.2.1 = x6 at *
      generalize (el8 ps k).2.2.2.2.2.2.2 = x7 at *
      go_wp2_with fail
      go_region_held3 (fun w' => w'.cell? ⟨g1, k * 8, none⟩ = some (.int .i64 x0) ∧ w'.cell? ⟨g2, k * 8, none⟩ = some (.int .i64 x0) ∧ w'.cell? ⟨g1, k * 8 + 1, none⟩ = some (.int .i64 x1) ∧ w'.cell? ⟨g2, k * 8 + 1, none⟩ = some (.int .i64 x1) ∧ w'.cell? ⟨g1, k * 8 + 2, none⟩ = some (.int .i64 x2) ∧ w'.cell? ⟨g2, k * 8 + 2, none⟩ = some (.int .i64 x2) ∧ w'.cell? ⟨g1, k * 8 + 3, none⟩ = some (.int .i64 x3) ∧ w'.cell? ⟨g2, k * 8 + 3, none⟩ = some (.int .i64 x3) ∧ w'.cell? ⟨g1, k * 8 + 4, none⟩ = some (.int .i64 x4) ∧ w'.cell? ⟨g2, k * 8 + 4, none⟩ = some (.int .i64 x4) ∧ w'.cell? ⟨g1, k * 8 + 5, none⟩ = some (.int .i64 x5) ∧ w'.cell? ⟨g2, k * 8 + 5, none⟩ = some (.int .i64 x5) ∧ w'.cell? ⟨g1, k * 8 + 6, none⟩ = some (.int .i64 x6) ∧ w'.cell? ⟨g2, k * 8 + 6, none⟩ = some (.int .i64 x6) ∧ w'.cell? ⟨g1, k * 8 + 7, none⟩ = some (.int .i64 x7) ∧ w'.cell? ⟨g2, k * 8 + 7, none⟩ = some (.int .i64 x7)) (go_keep)
        (first | (go_at_call 55; refine (eq1 _ _ _ _ _ _ _ _ _).mono ?_; rintro e w2 ⟨rfl, rfl⟩))
      all_goals (go_wp2; go_roundw)
      all_goals first
        | (have b2 := two_more wr (.cells #[.int .i64 x0, .int .i64 x1, .int .i64 x2, .int .i64 x3, .int .i64 x4, .int .i64 x5, .int .i64 x6, .int .i64 x7] 76) (.cells #[.int .i64 x0, .int .i64 x1, .int .i64 x2, .int .i64 x3, .int .i64 x4, .int .i64 x5, .int .i64 x6, .int .i64 x7] 76)
           exact ⟨k + 1, by omega, by go_num, (unhide H1).below b2 (by omega), (unhide H2).below b2 (by omega), next (unhide HB) b2⟩)
        | (simp [intOf]; omega)
    · have HB := hide hb
      clear h1 h2 hb
      go_wp2
      go_ret
      exact ⟨rfl, unhide HB⟩

/-- The marks: numbers from s on, 8 an element. -/
def marks (s : Int) (n : Nat) : List T8 := (List.range n).map fun (i : Nat) => (s + 8 * (i : Int), s + 8 * (i : Int) + 1, s + 8 * (i : Int) + 2, s + 8 * (i : Int) + 3, s + 8 * (i : Int) + 4, s + 8 * (i : Int) + 5, s + 8 * (i : Int) + 6, s + 8 * (i : Int) + 7)

theorem marks_len (s : Int) (n : Nat) : (marks s n).length = n := by simp [marks]
theorem marks_getD (s : Int) (n i : Nat) (h : i < n) : el8 (marks s n) i = (s + 8 * (i : Int), s + 8 * (i : Int) + 1, s + 8 * (i : Int) + 2, s + 8 * (i : Int) + 3, s + 8 * (i : Int) + 4, s + 8 * (i : Int) + 5, s + 8 * (i : Int) + 6, s + 8 * (i : Int) + 7) := by simp [marks, List.getD, h]

/-- The marks so far, and what stood behind. -/
def marked (s : Int) (ps : List T8) (n j : Nat) : List T8 := (marks s n).take j ++ ps.drop j

theorem marked_zero (s : Int) (ps : List T8) (n : Nat) : marked s ps n 0 = ps := by simp [marked]
theorem marked_all (s : Int) (ps : List T8) (n : Nat) (h : ps.length = n) : marked s ps n n = marks s n := by
  unfold marked
  rw [List.take_of_length_le (by rw [marks_len]; exact Nat.le_refl _), List.drop_of_length_le (by omega), List.append_nil]

theorem marked_step (s : Int) (ps : List T8) (n j : Nat) (h : ps.length = n) (hj : j < n) : ((((((((marked s ps n j).modify j (fun p => (s + 8 * (j : Int), p.2.1, p.2.2.1, p.2.2.2.1, p.2.2.2.2.1, p.2.2.2.2.2.1, p.2.2.2.2.2.2.1, p.2.2.2.2.2.2.2))).modify j (fun p => (p.1, s + 8 * (j : Int) + 1, p.2.2.1, p.2.2.2.1, p.2.2.2.2.1, p.2.2.2.2.2.1, p.2.2.2.2.2.2.1, p.2.2.2.2.2.2.2))).modify j (fun p => (p.1, p.2.1, s + 8 * (j : Int) + 1 + 1, p.2.2.2.1, p.2.2.2.2.1, p.2.2.2.2.2.1, p.2.2.2.2.2.2.1, p.2.2.2.2.2.2.2))).modify j (fun p => (p.1, p.2.1, p.2.2.1, s + 8 * (j : Int) + 1 + 1 + 1, p.2.2.2.2.1, p.2.2.2.2.2.1, p.2.2.2.2.2.2.1, p.2.2.2.2.2.2.2))).modify j (fun p => (p.1, p.2.1, p.2.2.1, p.2.2.2.1, s + 8 * (j : Int) + 1 + 1 + 1 + 1, p.2.2.2.2.2.1, p.2.2.2.2.2.2.1, p.2.2.2.2.2.2.2))).modify j (fun p => (p.1, p.2.1, p.2.2.1, p.2.2.2.1, p.2.2.2.2.1, s + 8 * (j : Int) + 1 + 1 + 1 + 1 + 1, p.2.2.2.2.2.2.1, p.2.2.2.2.2.2.2))).modify j (fun p => (p.1, p.2.1, p.2.2.1, p.2.2.2.1, p.2.2.2.2.1, p.2.2.2.2.2.1, s + 8 * (j : Int) + 1 + 1 + 1 + 1 + 1 + 1, p.2.2.2.2.2.2.2))).modify j (fun p => (p.1, p.2.1, p.2.2.1, p.2.2.2.1, p.2.2.2.2.1, p.2.2.2.2.2.1, p.2.2.2.2.2.2.1, s + 8 * (j : Int) + 1 + 1 + 1 + 1 + 1 + 1 + 1)) = marked s ps n (j + 1) := by
  unfold marked
  have l := marks_len s n
  have g := marks_getD s n j hj
  have l1 : ((marks s n).take j).length = j := by simp; omega
  have l2 : ((marks s n).take (j + 1)).length = j + 1 := by simp; omega
  apply List.ext_getElem?
  intro i
  rw [List.getElem?_modify, List.getElem?_modify, List.getElem?_modify, List.getElem?_modify, List.getElem?_modify, List.getElem?_modify, List.getElem?_modify, List.getElem?_modify]
  by_cases e : j = i
  · subst e
    rw [List.getElem?_append_right (by omega), List.getElem?_append_left (by omega), List.getElem?_take, if_pos (by omega), l1]
    have hg : (marks s n)[j]? = some (s + 8 * (j : Int), s + 8 * (j : Int) + 1, s + 8 * (j : Int) + 2, s + 8 * (j : Int) + 3, s + 8 * (j : Int) + 4, s + 8 * (j : Int) + 5, s + 8 * (j : Int) + 6, s + 8 * (j : Int) + 7) := by
      rw [← g]; simp [List.getD, l, hj]
    rw [hg]
    simp [List.getElem?_drop, h, hj]
    omega
  · by_cases d : i < j
    · rw [List.getElem?_append_left (by omega), List.getElem?_append_left (by omega), List.getElem?_take, List.getElem?_take, if_pos d, if_pos (by omega)]
      simp [e]
    · rw [List.getElem?_append_right (by omega), List.getElem?_append_right (by omega), l1, l2]
      simp only [List.getElem?_drop]
      rw [show j + (i - j) = i by omega, show j + 1 + (i - (j + 1)) = i by omega]
      simp [e]

theorem sz_yes (a : Option Addr) (len cap : Nat) (l : Int) (w : World) (h : (len : Int) ≤ l) (hl : l ≤ 1048576) :
    Calls Try.prog 29 #[.slice a len cap, .int .i64 l] w fun e w' => e = .returned (.int .i64 (l - (len : Int))) ∧ w' = w := by
  have h1 : (0 : Int) ≤ l - (len : Int) := by omega
  have h2 : wrap64 (l - (len : Int)) = l - (len : Int) := by rw [wrap64]; omega
  go_enter Try.func29, Try.ntmps29
  go_wp2
  go_ret
  exact ⟨rfl, rfl⟩

theorem sz_no (a : Option Addr) (len cap : Nat) (l : Int) (w : World) (h : ¬ (len : Int) ≤ l) (hl : l ≤ 1048576) (h0 : 0 ≤ l) (hm : len ≤ 9223372036854775807) :
    Calls Try.prog 29 #[.slice a len cap, .int .i64 l] w fun e w' => e = .returned (.int .i64 (-1)) ∧ w' = w := by
  have h1 : l - (len : Int) < 0 := by omega
  have h2 : wrap64 (l - (len : Int)) = l - (len : Int) := by rw [wrap64]; omega
  go_enter Try.func29, Try.ntmps29
  go_wp2
  go_ret
  exact ⟨rfl, rfl⟩

end Go.Proofs.Ytophnnmbgpinfaa.TradeHelp
