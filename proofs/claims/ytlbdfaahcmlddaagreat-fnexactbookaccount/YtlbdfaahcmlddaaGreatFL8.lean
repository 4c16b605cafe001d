/- Texts of one proof, one behind the other: AccountSPut, SAccountTell, AccountIInsert, AccountIPut, AccountAddI, AccountTellI, InstrSPut, SInstrTell, InstrIInsert, InstrIPut, InstrAddI, InstrTellI. -/
import Derived.Test.YtlbdfaahcmlddaaGreatRows
import Derived.Test.YtlbdfaahcmlddaaGreatFA1
import Derived.Test.YtlbdfaahcmlddaaGreatFA2
import Derived.Test.YtlbdfaahcmlddaaGreatFL3
import Derived.Test.YtlbdfaahcmlddaaGreatFL4
import Derived.Test.YtlbdfaahcmlddaaGreatFL5
import Derived.Test.YtlbdfaahcmlddaaGreatFL6
import Derived.WalkSmall
import Derived.Shelf.Spec.SlicesInsert
import Derived.Lib.AppendZerosOnto
import Derived.Deep.RegionWith
set_option linter.unusedVariables false
set_option linter.unusedSimpArgs false
namespace Go.Proofs.YtlbdfaahcmlddaaGreat.AccountSPut
open Go.ChangeShapes Go.WideShapes Go.ChangeAt Go.RowKit Pairs Chart AccountSOk
open AccountHelp (info2)
/-- How many, and what, has been copied when k elements are done. -/
def many (c k : Nat) : Nat := if c < k then k + 1 else k
def done (ps : List (Int × Int)) (c : Nat) (p : Int × Int) (k : Nat) : List (Int × Int) := (ins ps c p).take (many c k)
theorem take_next (L : List (Int × Int)) (m : Nat) (p : Int × Int) (hm : m < L.length) (e : el L m = p) : L.take (m + 1) = L.take m ++ [p] := by
  rw [List.take_add_one, ← e]
  simp [el, List.getD, hm]
theorem done_ahead (ps : List (Int × Int)) (c : Nat) (p : Int × Int) (k : Nat) (hc : c ≤ ps.length) (hk : k < c) : done ps c p (k + 1) = done ps c p k ++ [el ps k] := by
  unfold done many
  rw [if_neg (by omega), if_neg (by omega)]
  exact take_next _ _ _ (by rw [ins_len _ _ _ hc]; omega) (by rw [ins_el _ _ _ hc, if_pos hk])
theorem done_at (ps : List (Int × Int)) (c : Nat) (p : Int × Int) (hc : c < ps.length) : done ps c p (c + 1) = done ps c p c ++ [p] ++ [el ps c] := by
  unfold done many
  rw [if_pos (by omega), if_neg (by omega)]
  rw [take_next (ins ps c p) (c + 1) (el ps c) (by rw [ins_len _ _ _ (by omega)]; omega) (by rw [ins_el _ _ _ (by omega), if_neg (by omega), if_neg (by omega)]; rfl)]
  rw [take_next (ins ps c p) c p (by rw [ins_len _ _ _ (by omega)]; omega) (by rw [ins_el _ _ _ (by omega), if_neg (by omega), if_pos rfl])]
theorem done_behind (ps : List (Int × Int)) (c : Nat) (p : Int × Int) (k : Nat) (hc : c ≤ ps.length) (h1 : c < k) (hk : k < ps.length) : done ps c p (k + 1) = done ps c p k ++ [el ps k] := by
  unfold done many
  rw [if_pos (by omega), if_pos (by omega)]
  exact take_next _ _ _ (by rw [ins_len _ _ _ hc]; omega) (by rw [ins_el _ _ _ hc, if_neg (by omega), if_neg (by omega)]; rfl)
theorem done_all (ps : List (Int × Int)) (c : Nat) (p : Int × Int) (hc : c < ps.length) : done ps c p ps.length = ins ps c p := by
  unfold done many
  rw [if_pos hc]
  exact List.take_of_length_le (by rw [ins_len _ _ _ (by omega)]; exact Nat.le_refl _)
theorem done_last (ps : List (Int × Int)) (p : Int × Int) : done ps ps.length p ps.length ++ [p] = ins ps ps.length p := by
  unfold done many ins
  rw [if_neg (by omega)]
  simp
theorem sameOld {w a b : World} (h : Below w.heap.size w a) (k : Below w.heap.size w b) {p : Addr} (hp : p.block < w.heap.size) : b.cell? p = a.cell? p := (k.cell (p := p) hp).trans (h.cell (p := p) hp).symm
set_option maxRecDepth 100000 in
set_option maxHeartbeats 4000000 in
theorem sPut (w : World) (g n cap : Nat) (ps : List (Int × Int)) (x y : Int) (hl : ps.length = n) (h20 : n ≤ 1048576) (hg : g < w.heap.size) (h : At w g ps) :
    Calls Tryz.prog 54 #[.slice (some ⟨g, 0, none⟩) n cap, .agg #[.int .i64 x, .int .i64 y]] w fun e w' => ∃ qs ok g' c', IsPut 20 4 ps (x, y) qs ok ∧
      e = .returned (.tuple #[.slice (some ⟨g', 0, none⟩) qs.length c', .bool ok]) ∧ Own 80 w' w.heap.size g' qs.length c' qs ∧ Below w.heap.size w w' := by
  obtain ⟨ok, OK⟩ := says_of 20 4 ps
  obtain ⟨i0, hi, hz0, hz1, hz2⟩ := info_parts info2
  have b0 : Below w.heap.size w (w.alloc (.cells #[.int .i64 x, .int .i64 y] 80)) := (Below.refl _ _).alloc (Nat.le_refl _) _
  have oA := lit1 80 w w.heap.size x y (Nat.le_refl _)
  have H0 := hide (h.below b0 hg)
  have HB0 := hide b0
  have s1 : (w.alloc (.cells #[.int .i64 x, .int .i64 y] 80)).heap.size = w.heap.size + 1 := World.size_alloc ..
  clear b0
  have H := hide h
  clear h
  cases ok
  · go_enter Tryz.func54, Tryz.ntmps54
    go_wp2_with fail
    refine (sOk _ _ _ _ ps false hl h20 (unhide H0) OK).mono ?_
    rintro e w2 ⟨rfl, nq, rfl⟩
    go_wp2
    go_ret2
    refine ⟨[], false, w.heap.size + 1, 0, .inl ⟨OK.no, rfl, rfl⟩, rfl, ?_, (below_drewN (unhide HB0) nq).alloc (by simp) _⟩
    have := lit0 80 ((w.alloc (.cells #[.int .i64 x, .int .i64 y] 80)).drewN nq) w.heap.size (by simp)
    simpa using this
  · obtain ⟨c, hc⟩ := place_is ps x
    go_enter Tryz.func54, Tryz.ntmps54
    go_wp2_with fail
    refine (sOk _ _ _ _ ps true hl h20 (unhide H0) OK).mono ?_
    rintro e w2 ⟨rfl, nq, rfl⟩
    have oA2 : Own 80 ((w.alloc (.cells #[.int .i64 x, .int .i64 y] 80)).drewN nq) w.heap.size w.heap.size 1 1 [(x, y)] := oA
    have oO : Own 80 (((w.alloc (.cells #[.int .i64 x, .int .i64 y] 80)).drewN nq).alloc (.cells #[] 80)) (w.heap.size + 1) (w.heap.size + 1) 0 0 [] := by
      have := lit0 80 ((w.alloc (.cells #[.int .i64 x, .int .i64 y] 80)).drewN nq) (w.heap.size + 1) (by simp)
      simpa using this
    have oA3 := oA2.alloc (.cells #[] 80)
    have HB1 := hide ((below_drewN (unhide HB0) nq).alloc (B := w.heap.size) (by simp) (.cells #[] 80))
    have n20 : n ≤ 20 := by have := OK.yes.1; omega
    have c0 : c ≤ n := by have := hc.1; omega
    clear oA oA2 H0 HB0 s1
    have PC := hide hc
    clear hc
    go_wp2
    generalize ((w.alloc (.cells #[.int .i64 x, .int .i64 y] 80)).drewN nq).alloc (.cells #[] 80) = wS at *
    go_loopw [6, 7, 8] (fun o put i wr => ∃ (k m gO cO : Nat) (ds : List (Int × Int)), k ≤ n ∧ i = .int .i64 k ∧ put = .bool (decide (c < k)) ∧ o = .slice (some ⟨gO, 0, none⟩) m cO ∧ Hid (ds = done ps c (x, y) k ∧ m = many c k) ∧
        m ≤ 21 ∧ Own 80 wr (w.heap.size + 1) gO m cO ds ∧ Own 80 wr w.heap.size w.heap.size 1 1 [(x, y)] ∧ Below w.heap.size w wr) (fun _ _ i _ => n - (intOf i).toNat)
    case atStart =>
      refine ⟨0, 0, _, _, [], by omega, rfl, ?_, rfl, hide ⟨?_, ?_⟩, by omega, oO, oA3, unhide HB1⟩
      · simp
      · simp [done, many]
      · simp [many]
    case round =>
      clear oO oA3 HB1
      obtain ⟨k, m, gO, cO, ds, hk, rfl, rfl, rfl, HD, m21, own, oA, hb⟩ := hrel
      by_cases t : k < n
      · obtain ⟨e1, e2⟩ := (unhide H).below hb hg k (by omega)
        obtain ⟨a1, a2⟩ := oA.at 0 (by simp)
        have HO := hide own
        have HA := hide oA
        have HB := hide hb
        have es := hb.size
        have gne := own.lt.1
        have als := oA.lt.2
        clear own oA hb
        rcases Nat.lt_trichotomy k c with l | l | l
        · have lt : (el ps k).1 < x := (unhide PC).2.1 k l
          have gd : decide (x ≤ (el ps k).1) = false := decide_eq_false (by omega)
          have nk : decide (c < k) = false := by simp; omega
          have nk2 : decide (c < k + 1) = false := by simp; omega
          have ED := hide (done_ahead ps c (x, y) k (by omega) l)
          have EM := hide (show many c (k + 1) = many c k + 1 by unfold many; rw [if_neg (by omega), if_neg (by omega)])
          have ED : Hid (done ps c (x, y) (k + 1) = done ps c (x, y) k ++ [((el ps k).1, (el ps k).2)]) := ED
          have mk : Hid (m ≤ 20) := hide (by have := (unhide HD).2; unfold many at this; rw [if_neg (by omega)] at this; omega)
          have m20 : m ≤ 20 := unhide mk
          generalize (el ps k).1 = p1 at *
          generalize (el ps k).2 = p2 at *
          rw [nk]
          go_wp2
          go_quiet (fail)
          generalize hw1 : wr.drewN nq = w1
          have o1 : Own 80 w1 (w.heap.size + 1) gO m cO ds := by rw [← hw1]; exact unhide HO
          have a1 : Own 80 w1 w.heap.size w.heap.size 1 1 [(x, y)] := by rw [← hw1]; exact unhide HA
          have b1 : Below w.heap.size w w1 := by rw [← hw1]; exact below_drewN (unhide HB) nq
          have f1 : w1.cell? ⟨g, k * 2, none⟩ = some (.int .i64 p1) := by rw [← hw1]; exact e1
          have f2 : w1.cell? ⟨g, k * 2 + 1, none⟩ = some (.int .i64 p2) := by rw [← hw1]; exact e2
          obtain ⟨d1, d2⟩ := a1.at 0 (by simp)
          have d1 : w1.cell? ⟨w.heap.size, 0, none⟩ = some (.int .i64 x) := d1
          have d2 : w1.cell? ⟨w.heap.size, 1, none⟩ = some (.int .i64 y) := d2
          have es1 := b1.size
          have as1 := a1.lt.2
          clear hw1 e1 e2 HO HA HB es
          go_wp2_with (at_builtin; refine wpList_append_own _ rfl (.tmp 36) (.tmp 41) 31 rfl (w.heap.size + 1) 80 i0 (.agg #[.int .i64 0, .int .i64 0]) 2 16 Tryz.underlying31 hi hz0 hz1 hz2 rfl (by decide) (.slice (some ⟨gO, 0, none⟩) m cO) m _ rfl (o1.alloc _) ⟨w1.heap.size, 0, none⟩ 1 1 [.int .i64 p1, .int .i64 p2] rfl rfl (lit1 _ w1 0 _ _ (Nat.zero_le _)).at.cells (fun u hu => flat_one u [(p1, p2)] hu) (by unfold maxLen; omega) (by omega) (by simp; omega) ?_)
          intro v2 w2 own2 (gr2 : World.grownBy _ w2 (some gO)) nil2
          obtain ⟨g2, c2, rfl, o2⟩ := own_of_row (n' := m + 1) (ps := ds ++ [(p1, p2)]) own2 (by omega) (by rw [flat_append]; rfl) (by first | exact nil2 | (rw [nil2]; simp))
          have a2 := (a1.alloc (.cells #[.int .i64 p1, .int .i64 p2] 80)).kept gr2 (by simp; omega)
          have b2 : Below w.heap.size w w2 := (b1.alloc es1 _).grown gr2 (by simp; omega) (by simp; omega)
          have es2 := b2.size
          have as2 := a2.lt.2
          have gn2 := o2.lt.1
          clear own2 gr2 nil2 o1 a1 b1 d1 d2 f1 f2
          go_wp2
          go_roundw
          case rel => exact ⟨k + 1, m + 1, g2, c2, _, by omega, by go_num, by rw [nk2], rfl, hide ⟨by rw [unhide ED, (unhide HD).1], by rw [unhide EM, (unhide HD).2]⟩, by omega, o2, a2, b2⟩
          case measure => simp [intOf]; omega
        · have ge : x ≤ (el ps k).1 := (by subst l; exact (unhide PC).2.2 (by omega))
          have gd : decide (x ≤ (el ps k).1) = true := decide_eq_true ge
          have nk : decide (c < k) = false := by simp; omega
          have nk2 : decide (c < k + 1) = true := by simp; omega
          have ED : Hid (done ps c (x, y) (k + 1) = done ps c (x, y) k ++ [(x, y)] ++ [((el ps k).1, (el ps k).2)]) := hide (by subst l; exact done_at ps k (x, y) (by omega))
          have EM := hide (show many c (k + 1) = many c k + 2 by unfold many; rw [if_pos (by omega), if_neg (by omega)])
          have mk : Hid (m + 1 ≤ 20) := hide (by have := (unhide HD).2; unfold many at this; rw [if_neg (by omega)] at this; omega)
          have mm : m + 1 ≤ 20 := unhide mk
          clear l
          generalize (el ps k).1 = p1 at *
          generalize (el ps k).2 = p2 at *
          rw [nk]
          go_wp2
          go_quiet (fail)
          generalize hw1 : wr.drewN nq = w1
          have o1 : Own 80 w1 (w.heap.size + 1) gO m cO ds := by rw [← hw1]; exact unhide HO
          have a1 : Own 80 w1 w.heap.size w.heap.size 1 1 [(x, y)] := by rw [← hw1]; exact unhide HA
          have b1 : Below w.heap.size w w1 := by rw [← hw1]; exact below_drewN (unhide HB) nq
          have f1 : w1.cell? ⟨g, k * 2, none⟩ = some (.int .i64 p1) := by rw [← hw1]; exact e1
          have f2 : w1.cell? ⟨g, k * 2 + 1, none⟩ = some (.int .i64 p2) := by rw [← hw1]; exact e2
          obtain ⟨d1, d2⟩ := a1.at 0 (by simp)
          have d1 : w1.cell? ⟨w.heap.size, 0, none⟩ = some (.int .i64 x) := d1
          have d2 : w1.cell? ⟨w.heap.size, 1, none⟩ = some (.int .i64 y) := d2
          have es1 := b1.size
          have as1 := a1.lt.2
          clear hw1 e1 e2 HO HA HB es
          go_wp2_with (at_builtin; refine wpList_append_own _ rfl (.tmp 32) (.tmp 34) 31 rfl (w.heap.size + 1) 80 i0 (.agg #[.int .i64 0, .int .i64 0]) 2 16 Tryz.underlying31 hi hz0 hz1 hz2 rfl (by decide) (.slice (some ⟨gO, 0, none⟩) m cO) m _ rfl (o1.alloc _) ⟨w1.heap.size, 0, none⟩ 1 1 [.int .i64 x, .int .i64 y] rfl rfl (lit1 _ w1 0 _ _ (Nat.zero_le _)).at.cells (fun u hu => flat_one u [(x, y)] hu) (by unfold maxLen; omega) (by omega) (by simp; omega) ?_)
          intro v2 w2 own2 (gr2 : World.grownBy _ w2 (some gO)) nil2
          obtain ⟨g2, c2, rfl, o2⟩ := own_of_row (n' := m + 1) (ps := ds ++ [(x, y)]) own2 (by omega) (by rw [flat_append]; rfl) (by first | exact nil2 | (rw [nil2]; simp))
          have a2 := (a1.alloc (.cells #[.int .i64 x, .int .i64 y] 80)).kept gr2 (by simp; omega)
          have b2 : Below w.heap.size w w2 := (b1.alloc es1 _).grown gr2 (by simp; omega) (by simp; omega)
          have es2 := b2.size
          have as2 := a2.lt.2
          have gn2 := o2.lt.1
          have h1 : w2.cell? ⟨g, k * 2, none⟩ = some (.int .i64 p1) := (sameOld b1 b2 (p := ⟨g, k * 2, none⟩) hg).trans f1
          have h2 : w2.cell? ⟨g, k * 2 + 1, none⟩ = some (.int .i64 p2) := (sameOld b1 b2 (p := ⟨g, k * 2 + 1, none⟩) hg).trans f2
          clear own2 gr2 nil2 o1 a1 b1 d1 d2 f1 f2
          go_wp2_with (at_builtin; refine wpList_append_own _ rfl (.tmp 36) (.tmp 41) 31 rfl (w.heap.size + 1) 80 i0 (.agg #[.int .i64 0, .int .i64 0]) 2 16 Tryz.underlying31 hi hz0 hz1 hz2 rfl (by decide) (.slice (some ⟨g2, 0, none⟩) (m + 1) c2) (m + 1) _ rfl (o2.alloc _) ⟨w2.heap.size, 0, none⟩ 1 1 [.int .i64 p1, .int .i64 p2] rfl rfl (lit1 _ w2 0 _ _ (Nat.zero_le _)).at.cells (fun u hu => flat_one u [(p1, p2)] hu) (by unfold maxLen; omega) (by omega) (by simp; omega) ?_)
          intro v3 w3 own3 (gr3 : World.grownBy _ w3 (some g2)) nil3
          obtain ⟨g3, c3, rfl, o3⟩ := own_of_row (n' := m + 2) (ps := ds ++ [(x, y)] ++ [(p1, p2)]) own3 (by omega) (flat_append (ds ++ [(x, y)]) [(p1, p2)]).symm (by first | exact nil3 | (rw [nil3]; simp))
          have a3 := (a2.alloc (.cells #[.int .i64 p1, .int .i64 p2] 80)).kept gr3 (by simp; omega)
          have b3 : Below w.heap.size w w3 := (b2.alloc es2 _).grown gr3 (by simp; omega) (by simp; omega)
          have es3 := b3.size
          have as3 := a3.lt.2
          have gn3 := o3.lt.1
          clear own3 gr3 nil3 o2 a2 b2 h1 h2
          go_wp2
          go_roundw
          case rel => exact ⟨k + 1, m + 2, g3, c3, _, by omega, by go_num, by rw [nk2], rfl, hide ⟨by rw [unhide ED, (unhide HD).1], by rw [unhide EM, (unhide HD).2]⟩, by omega, o3, a3, b3⟩
          case measure => simp [intOf]; omega
        · have nk : decide (c < k) = true := by simp; omega
          have nk2 : decide (c < k + 1) = true := by simp; omega
          have ED : Hid (done ps c (x, y) (k + 1) = done ps c (x, y) k ++ [((el ps k).1, (el ps k).2)]) := hide (done_behind ps c (x, y) k (by omega) l (by omega))
          have EM := hide (show many c (k + 1) = many c k + 1 by unfold many; rw [if_pos (by omega), if_pos (by omega)])
          have mk : Hid (m ≤ 20) := hide (by have := (unhide HD).2; unfold many at this; rw [if_pos (by omega)] at this; omega)
          have mm := unhide mk
          generalize (el ps k).1 = p1 at *
          generalize (el ps k).2 = p2 at *
          rw [nk]
          go_wp2
          go_quiet (fail)
          generalize hw1 : wr.drewN nq = w1
          have o1 : Own 80 w1 (w.heap.size + 1) gO m cO ds := by rw [← hw1]; exact unhide HO
          have a1 : Own 80 w1 w.heap.size w.heap.size 1 1 [(x, y)] := by rw [← hw1]; exact unhide HA
          have b1 : Below w.heap.size w w1 := by rw [← hw1]; exact below_drewN (unhide HB) nq
          have f1 : w1.cell? ⟨g, k * 2, none⟩ = some (.int .i64 p1) := by rw [← hw1]; exact e1
          have f2 : w1.cell? ⟨g, k * 2 + 1, none⟩ = some (.int .i64 p2) := by rw [← hw1]; exact e2
          obtain ⟨d1, d2⟩ := a1.at 0 (by simp)
          have d1 : w1.cell? ⟨w.heap.size, 0, none⟩ = some (.int .i64 x) := d1
          have d2 : w1.cell? ⟨w.heap.size, 1, none⟩ = some (.int .i64 y) := d2
          have es1 := b1.size
          have as1 := a1.lt.2
          clear hw1 e1 e2 HO HA HB es
          go_wp2_with (at_builtin; refine wpList_append_own _ rfl (.tmp 36) (.tmp 41) 31 rfl (w.heap.size + 1) 80 i0 (.agg #[.int .i64 0, .int .i64 0]) 2 16 Tryz.underlying31 hi hz0 hz1 hz2 rfl (by decide) (.slice (some ⟨gO, 0, none⟩) m cO) m _ rfl (o1.alloc _) ⟨w1.heap.size, 0, none⟩ 1 1 [.int .i64 p1, .int .i64 p2] rfl rfl (lit1 _ w1 0 _ _ (Nat.zero_le _)).at.cells (fun u hu => flat_one u [(p1, p2)] hu) (by unfold maxLen; omega) (by omega) (by simp; omega) ?_)
          intro v2 w2 own2 (gr2 : World.grownBy _ w2 (some gO)) nil2
          obtain ⟨g2, c2, rfl, o2⟩ := own_of_row (n' := m + 1) (ps := ds ++ [(p1, p2)]) own2 (by omega) (by rw [flat_append]; rfl) (by first | exact nil2 | (rw [nil2]; simp))
          have a2 := (a1.alloc (.cells #[.int .i64 p1, .int .i64 p2] 80)).kept gr2 (by simp; omega)
          have b2 : Below w.heap.size w w2 := (b1.alloc es1 _).grown gr2 (by simp; omega) (by simp; omega)
          have es2 := b2.size
          have as2 := a2.lt.2
          have gn2 := o2.lt.1
          clear own2 gr2 nil2 o1 a1 b1 d1 d2 f1 f2
          go_wp2
          go_roundw
          case rel => exact ⟨k + 1, m + 1, g2, c2, _, by omega, by go_num, by rw [nk2], rfl, hide ⟨by rw [unhide ED, (unhide HD).1], by rw [unhide EM, (unhide HD).2]⟩, by omega, o2, a2, b2⟩
          case measure => simp [intOf]; omega
      · obtain rfl : k = n := by omega
        by_cases cn : c < k
        · have nk : decide (c < k) = true := by simp; omega
          obtain ⟨rfl, rfl⟩ := unhide HD
          have own : Own 80 wr (w.heap.size + 1) gO (k + 1) cO (ins ps c (x, y)) := by
            have e : many c k = k + 1 := by unfold many; rw [if_pos cn]
            have e2 := done_all ps c (x, y) (by omega)
            rw [hl] at e2
            rw [e, e2] at own
            exact own
          have em : Hid (many c k = k + 1) := by unfold Hid many; rw [if_pos cn]
          rw [unhide em, nk]
          clear em nk HD
          obtain ⟨ok2, OK2⟩ := says_of 20 4 (ins ps c (x, y))
          have li : (ins ps c (x, y)).length = k + 1 := by rw [ins_len _ _ _ (by omega)]; omega
          have es := hb.size
          cases ok2
          · go_wp2_with fail
            refine (sOk _ gO (k + 1) cO (ins ps c (x, y)) false li (by omega) own.at OK2).mono ?_
            rintro e w7 ⟨rfl, nq2, rfl⟩
            have bq := below_drewN hb nq2
            generalize wr.drewN nq2 = w8 at *
            have es8 := bq.size
            clear own hb
            go_wp2_with (at_builtin; refine wpList_append_own _ rfl (.tmp 52) (.tmp 53) 31 rfl w.heap.size 80 i0 (.agg #[.int .i64 0, .int .i64 0]) 2 16 Tryz.underlying31 hi hz0 hz1 hz2 rfl (by decide) (.slice (some ⟨w8.heap.size, 0, none⟩) 0 0) 0 _ rfl (lit0 _ w8 w.heap.size bq.size) ⟨g, 0, none⟩ k cap (flat ps) rfl (by rw [flat_len, hl]) ((unhide H).below (bq.alloc (o := .cells #[] 80) bq.size) hg).cells (fun u hu => flat_one u ps hu) (by unfold maxLen; omega) (by omega) (by simp; omega) ?_)
            intro v9 w9 own9 (gr9 : World.grownBy _ w9 (some w8.heap.size)) nil9
            obtain ⟨g9, c9, rfl, o9⟩ := own_of_row (n' := k) (ps := ps) own9 (by omega) (by rw [flat_nil, List.nil_append]) (by first | exact nil9 | (rw [nil9]; simp))
            have b9 : Below w.heap.size w w9 := (bq.alloc bq.size _).grown gr9 (by simp; omega) (by simp; omega)
            clear own9 gr9 nil9
            go_wp2
            go_ret2
            exact ⟨ps, false, g9, c9, .inr ⟨OK.yes, c, unhide PC, .inl ⟨OK2.no, rfl, rfl⟩⟩, by rw [hl]; rfl, by rw [hl]; exact o9, b9⟩
          · go_wp2_with fail
            refine (sOk _ gO (k + 1) cO (ins ps c (x, y)) true li (by omega) own.at OK2).mono ?_
            rintro e w7 ⟨rfl, nq2, rfl⟩
            have bq := below_drewN hb nq2
            have oq : Own 80 (wr.drewN nq2) (w.heap.size + 1) gO (k + 1) cO (ins ps c (x, y)) := own
            generalize wr.drewN nq2 = w8 at *
            clear own hb
            go_wp2
            go_ret2
            exact ⟨ins ps c (x, y), true, gO, cO, .inr ⟨OK.yes, c, unhide PC, .inr ⟨OK2.yes, rfl, rfl⟩⟩, by rw [li]; rfl, by rw [li]; exact oq.rebase (by have := oq.lt.1; omega), bq⟩
        · obtain rfl : c = k := by omega
          have nk : decide (c < c) = false := by simp
          obtain ⟨rfl, rfl⟩ := unhide HD
          have em : Hid (many c c = c) := by unfold Hid many; rw [if_neg (by omega)]
          rw [unhide em] at own
          rw [unhide em, nk]
          obtain ⟨d1, d2⟩ := oA.at 0 (by simp)
          have d1 : wr.cell? ⟨w.heap.size, 0, none⟩ = some (.int .i64 x) := d1
          have d2 : wr.cell? ⟨w.heap.size, 1, none⟩ = some (.int .i64 y) := d2
          have es := hb.size
          have asw := oA.lt.2
          have gne := own.lt.1
          clear em nk HD m21
          go_wp2_with (at_builtin; refine wpList_append_own _ rfl (.tmp 45) (.tmp 47) 31 rfl (w.heap.size + 1) 80 i0 (.agg #[.int .i64 0, .int .i64 0]) 2 16 Tryz.underlying31 hi hz0 hz1 hz2 rfl (by decide) (.slice (some ⟨gO, 0, none⟩) c cO) c _ rfl (own.alloc _) ⟨wr.heap.size, 0, none⟩ 1 1 [.int .i64 x, .int .i64 y] rfl rfl (lit1 _ wr 0 _ _ (Nat.zero_le _)).at.cells (fun u hu => flat_one u [(x, y)] hu) (by unfold maxLen; omega) (by omega) (by simp; omega) ?_)
          intro v2 w2 own2 (gr2 : World.grownBy _ w2 (some gO)) nil2
          obtain ⟨g2, c2, rfl, o2⟩ := own_of_row (n' := c + 1) (ps := ins ps c (x, y)) own2 (by omega) (by have := done_last ps (x, y); rw [hl] at this; rw [← this, flat_append]; rfl) (by first | exact nil2 | (rw [nil2]; simp))
          have b2 : Below w.heap.size w w2 := (hb.alloc es _).grown gr2 (by simp; omega) (by simp; omega)
          clear own2 gr2 nil2 own oA hb d1 d2 es
          obtain ⟨ok2, OK2⟩ := says_of 20 4 (ins ps c (x, y))
          have li : (ins ps c (x, y)).length = c + 1 := by rw [ins_len _ _ _ (by omega)]; omega
          have es := b2.size
          cases ok2
          · go_wp2_with fail
            refine (sOk _ g2 (c + 1) c2 (ins ps c (x, y)) false li (by omega) o2.at OK2).mono ?_
            rintro e w7 ⟨rfl, nq2, rfl⟩
            have bq := below_drewN b2 nq2
            generalize w2.drewN nq2 = w8 at *
            have es8 := bq.size
            clear o2 b2
            go_wp2_with (at_builtin; refine wpList_append_own _ rfl (.tmp 52) (.tmp 53) 31 rfl w.heap.size 80 i0 (.agg #[.int .i64 0, .int .i64 0]) 2 16 Tryz.underlying31 hi hz0 hz1 hz2 rfl (by decide) (.slice (some ⟨w8.heap.size, 0, none⟩) 0 0) 0 _ rfl (lit0 _ w8 w.heap.size bq.size) ⟨g, 0, none⟩ c cap (flat ps) rfl (by rw [flat_len, hl]) ((unhide H).below (bq.alloc (o := .cells #[] 80) bq.size) hg).cells (fun u hu => flat_one u ps hu) (by unfold maxLen; omega) (by omega) (by simp; omega) ?_)
            intro v9 w9 own9 (gr9 : World.grownBy _ w9 (some w8.heap.size)) nil9
            obtain ⟨g9, c9, rfl, o9⟩ := own_of_row (n' := c) (ps := ps) own9 (by omega) (by rw [flat_nil, List.nil_append]) (by first | exact nil9 | (rw [nil9]; simp))
            have b9 : Below w.heap.size w w9 := (bq.alloc bq.size _).grown gr9 (by simp; omega) (by simp; omega)
            clear own9 gr9 nil9
            go_wp2
            go_ret2
            exact ⟨ps, false, g9, c9, .inr ⟨OK.yes, c, unhide PC, .inl ⟨OK2.no, rfl, rfl⟩⟩, by rw [hl]; rfl, by rw [hl]; exact o9, b9⟩
          · go_wp2_with fail
            refine (sOk _ g2 (c + 1) c2 (ins ps c (x, y)) true li (by omega) o2.at OK2).mono ?_
            rintro e w7 ⟨rfl, nq2, rfl⟩
            have bq := below_drewN b2 nq2
            have oq : Own 80 (w2.drewN nq2) (w.heap.size + 1) g2 (c + 1) c2 (ins ps c (x, y)) := o2
            generalize w2.drewN nq2 = w8 at *
            clear o2 b2
            go_wp2
            go_ret2
            exact ⟨ins ps c (x, y), true, g2, c2, .inr ⟨OK.yes, c, unhide PC, .inr ⟨OK2.yes, rfl, rfl⟩⟩, by rw [li]; rfl, by rw [li]; exact oq.rebase (by have := oq.lt.1; omega), bq⟩
end Go.Proofs.YtlbdfaahcmlddaaGreat.AccountSPut
namespace Go.Proofs.YtlbdfaahcmlddaaGreat.SAccountTell
open Go.ChangeShapes Go.WideShapes Go.ChangeAt Go.RowKit BMem Bks ILists BHelp Ans
open IBalsFit (one_more)
open Lots (Says says_of NoOk)
set_option maxRecDepth 100000 in
set_option maxHeartbeats 4000000 in
theorem sTell (w : World) (x : Bx) (no kind : Int) (h : Rd w x) :
    Calls Tryz.prog 13 #[.agg #[.slice (some ⟨x.ga, 0, none⟩) x.b.ac.length x.ca, .slice (some ⟨x.gi, 0, none⟩) x.b.ic.length x.ci, .slice (some ⟨x.gb, 0, none⟩) x.b.bs.length x.cb, .slice (some ⟨x.gl, 0, none⟩) x.b.ls.length x.cl, .slice (some ⟨x.gt, 0, none⟩) x.b.ts.length x.ct, .int .i64 x.b.lot], .int .i64 no, .int .i64 kind] w (AnsB (Ok x.b ∧ NoOk no ∧ (1 ≤ kind ∧ kind ≤ 4)) (IsAcc x.b no kind) w) := by
  obtain ⟨b0, h0⟩ := says_of (Ok x.b)
  obtain ⟨b1, h1⟩ := says_of (NoOk no)
  obtain ⟨b2, h2⟩ := says_of (1 ≤ kind ∧ kind ≤ 4)
  have H0 := hide h0
  have H1 := hide h1
  have H2 := hide h2
  have S0 := hide (SR.start h)
  clear h0 h1 h2 h
  go_enter Tryz.func13, Tryz.ntmps13
  go_wp2_with fail
  refine (SBooksOk.sBooksOk _ x b0 (unhide S0).r (unhide H0)).mono ?_
  rintro e w1 ⟨rfl, bb⟩
  have S1 := hide ((unhide S0).step bb)
  clear bb
  obtain ⟨c0, c1, c2, c3, c4, c5⟩ := (unhide S1).c
  have r0 := (unhide S1).v.c0
  have r1 := (unhide S1).v.c1
  have r2 := (unhide S1).v.c2
  have r3 := (unhide S1).v.c3
  have r4 := (unhide S1).v.c4
  have r5 := (unhide S1).v.c5
  have f0 := (unhide S1).v.free 0
  have f1 := (unhide S1).v.free 1
  have f2 := (unhide S1).v.free 2
  have f3 := (unhide S1).v.free 3
  have f4 := (unhide S1).v.free 4
  have f5 := (unhide S1).v.free 5
  have B1 := hide (unhide S1).b
  cases b0
  · have N := hide (show ¬ (Ok x.b ∧ NoOk no ∧ (1 ≤ kind ∧ kind ≤ 4)) from fun hh => (unhide H0).no hh.1)
    go_wp2
    refine bodyPost_ret (v := .tuple #[.agg #[.slice none 0 0, .slice none 0 0, .slice none 0 0, .slice none 0 0, .slice none 0 0, .int .i64 0], .int .i64 1]) (by simp [results, Tryz.results13, go_sem, r0, r1, r2, r3, r4, r5]) rfl (.inl ⟨unhide N, rfl, ?_⟩)
    exact six (unhide B1) (by omega) _ _ _ _ _ _
  go_wp2_with fail
  refine (SOk5.sNo no b1 _ (unhide H1)).mono ?_
  rintro e w1' ⟨rfl, rfl⟩
  cases b1
  · have N := hide (show ¬ (Ok x.b ∧ NoOk no ∧ (1 ≤ kind ∧ kind ≤ 4)) from fun hh => (unhide H1).no hh.2.1)
    go_wp2
    refine bodyPost_ret (v := .tuple #[.agg #[.slice none 0 0, .slice none 0 0, .slice none 0 0, .slice none 0 0, .slice none 0 0, .int .i64 0], .int .i64 1]) (by simp [results, Tryz.results13, go_sem, r0, r1, r2, r3, r4, r5]) rfl (.inl ⟨unhide N, rfl, ?_⟩)
    exact six (unhide B1) (by omega) _ _ _ _ _ _
  go_wp2_with fail
  refine (SOk5.sIn kind 1 4 b2 _ (unhide H2)).mono ?_
  rintro e w1'' ⟨rfl, rfl⟩
  cases b2
  · have N := hide (show ¬ (Ok x.b ∧ NoOk no ∧ (1 ≤ kind ∧ kind ≤ 4)) from fun hh => (unhide H2).no hh.2.2)
    go_wp2
    refine bodyPost_ret (v := .tuple #[.agg #[.slice none 0 0, .slice none 0 0, .slice none 0 0, .slice none 0 0, .slice none 0 0, .int .i64 0], .int .i64 1]) (by simp [results, Tryz.results13, go_sem, r0, r1, r2, r3, r4, r5]) rfl (.inl ⟨unhide N, rfl, ?_⟩)
    exact six (unhide B1) (by omega) _ _ _ _ _ _
  have TOLD := hide (show Ok x.b ∧ NoOk no ∧ (1 ≤ kind ∧ kind ≤ 4) from ⟨(unhide H0).yes, (unhide H1).yes, (unhide H2).yes⟩)
  have LI := hide (unhide H0).yes.1
  go_wp2_with fail
  refine (SCopy.sCopy _ x (unhide S1).r).mono ?_
  rintro e w3 ⟨z, hz, rfl, oz, bb⟩
  have zb : w1''.heap.size ≤ w3.heap.size := bb.size
  have S3 := hide (((unhide S1).step bb).step (one_more w3 (.cells #[.slice (some ⟨z.ga, 0, none⟩) z.b.ac.length z.ca, .slice (some ⟨z.gi, 0, none⟩) z.b.ic.length z.ci, .slice (some ⟨z.gb, 0, none⟩) z.b.bs.length z.cb, .slice (some ⟨z.gl, 0, none⟩) z.b.ls.length z.cl, .slice (some ⟨z.gt, 0, none⟩) z.b.ts.length z.ct, .int .i64 z.b.lot] 37)))
  have UZ := hide (ow_up oz)
  have LZ := hide (ow_lo oz)
  have OZ := hide (ow_alloc oz (.cells #[.slice (some ⟨z.ga, 0, none⟩) z.b.ac.length z.ca, .slice (some ⟨z.gi, 0, none⟩) z.b.ic.length z.ci, .slice (some ⟨z.gb, 0, none⟩) z.b.bs.length z.cb, .slice (some ⟨z.gl, 0, none⟩) z.b.ls.length z.cl, .slice (some ⟨z.gt, 0, none⟩) z.b.ts.length z.ct, .int .i64 z.b.lot] 37))
  have VZ := hide (Box.made (w := w3) (base := w.heap.size) (.slice (some ⟨z.ga, 0, none⟩) z.b.ac.length z.ca) (.slice (some ⟨z.gi, 0, none⟩) z.b.ic.length z.ci) (.slice (some ⟨z.gb, 0, none⟩) z.b.bs.length z.cb) (.slice (some ⟨z.gl, 0, none⟩) z.b.ls.length z.cl) (.slice (some ⟨z.gt, 0, none⟩) z.b.ts.length z.ct) (.int .i64 z.b.lot) (Nat.le_trans (unhide B1).size zb) rfl)
  have rl := (unhide S1).v.lt
  have HZ := hide hz
  clear bb oz hz c0 c1 c2 c3 c4 c5 r0 r1 r2 r3 r4 r5 f0 f1 f2 f3 f4 f5
  obtain ⟨c0, c1, c2, c3, c4, c5⟩ := (unhide S3).c
  obtain ⟨K, hK⟩ : ∃ K, Hid (kindOf x.b.ac no = K) := ⟨_, rfl⟩
  go_wp2_with fail
  refine (SBals.sKindA _ x no K (unhide S3).r (unhide LI).1 (unhide hK)).mono ?_
  rintro e w4 ⟨rfl, bb⟩
  have S4 := hide ((unhide S3).step bb)
  have OZ4 := hide ((unhide OZ).below bb (Nat.le_refl _))
  have z3 : w3.heap.size < (w3.alloc (.cells #[.slice (some ⟨z.ga, 0, none⟩) z.b.ac.length z.ca, .slice (some ⟨z.gi, 0, none⟩) z.b.ic.length z.ci, .slice (some ⟨z.gb, 0, none⟩) z.b.bs.length z.cb, .slice (some ⟨z.gl, 0, none⟩) z.b.ls.length z.cl, .slice (some ⟨z.gt, 0, none⟩) z.b.ts.length z.ct, .int .i64 z.b.lot] 37)).heap.size := by simp
  have VZ4 := hide ((unhide VZ).below bb z3)
  have z4 : w3.heap.size < w4.heap.size := Nat.lt_of_lt_of_le z3 bb.size
  clear bb c0 c1 c2 c3 c4 c5 z3
  obtain ⟨c0, c1, c2, c3, c4, c5⟩ := (unhide S4).c
  have d0 := (unhide VZ4).c0
  have d1 := (unhide VZ4).c1
  have d2 := (unhide VZ4).c2
  have d3 := (unhide VZ4).c3
  have d4 := (unhide VZ4).c4
  have d5 := (unhide VZ4).c5
  have r0 := (unhide S4).v.c0
  have r1 := (unhide S4).v.c1
  have r2 := (unhide S4).v.c2
  have r3 := (unhide S4).v.c3
  have r4 := (unhide S4).v.c4
  have r5 := (unhide S4).v.c5
  have f0 := (unhide S4).v.free 0
  have f1 := (unhide S4).v.free 1
  have f2 := (unhide S4).v.free 2
  have f3 := (unhide S4).v.free 3
  have f4 := (unhide S4).v.free 4
  have f5 := (unhide S4).v.free 5
  have B4 := hide (unhide S4).b
  have OFR := off_lo (unhide LZ) (g := w.heap.size + 1) (by omega)
  have KIN := hide (kind_in (unhide LI).1 no)
  by_cases q : K > 0
  · have IS := hide (show IsAcc x.b no kind z.b 2 from .inl ⟨by have := unhide hK; omega, unhide HZ, rfl⟩)
    go_wp2
    refine bodyPost_ret (v := .tuple #[.agg #[.slice (some ⟨z.ga, 0, none⟩) z.b.ac.length z.ca, .slice (some ⟨z.gi, 0, none⟩) z.b.ic.length z.ci, .slice (some ⟨z.gb, 0, none⟩) z.b.bs.length z.cb, .slice (some ⟨z.gl, 0, none⟩) z.b.ls.length z.cl, .slice (some ⟨z.gt, 0, none⟩) z.b.ts.length z.ct, .int .i64 z.b.lot], .int .i64 2]) (by simp [results, Tryz.results13, go_sem, r0, r1, r2, r3, r4, r5]) rfl (.inr ⟨unhide TOLD, z, 2, unhide IS, rfl, ?_, ?_⟩)
    · refine Ow.rebase (base := w1''.heap.size) ?_ (unhide B1).size
      exact ow_six (unhide OZ4) OFR _ _ _ _ _ _
    · exact six (unhide B4) (by omega) _ _ _ _ _ _
  have hq : decide (K > 0) = false := decide_eq_false q
  have KZ := hide (show kindOf x.b.ac no = 0 from by have := unhide hK; have := unhide KIN; omega)
  clear q
  have na := (unhide S4).r.na
  go_wp2_with fail
  refine (AccountSPut.sPut _ x.ga _ x.ca x.b.ac no kind rfl na (unhide S4).r.la (unhide S4).r.ra).mono ?_
  rintro e w5 ⟨qs, ok, g5, k5, hp, rfl, o5, bb⟩
  have S5 := hide ((unhide S4).step bb)
  have OZ5 := hide ((unhide OZ4).below bb (Nat.le_refl _))
  have VZ5 := hide ((unhide VZ4).below bb z4)
  have IP := hide hp
  have O5 := hide o5
  have g5l := o5.lt
  clear bb hp o5 c0 c1 c2 c3 c4 c5 d0 d1 d2 d3 d4 d5 r0 r1 r2 r3 r4 r5 f0 f1 f2 f3 f4 f5
  have d0 := (unhide VZ5).c0
  have d1 := (unhide VZ5).c1
  have d2 := (unhide VZ5).c2
  have d3 := (unhide VZ5).c3
  have d4 := (unhide VZ5).c4
  have d5 := (unhide VZ5).c5
  have e0 := (unhide VZ5).free 0
  have r0 := (unhide S5).v.c0
  have r1 := (unhide S5).v.c1
  have r2 := (unhide S5).v.c2
  have r3 := (unhide S5).v.c3
  have r4 := (unhide S5).v.c4
  have r5 := (unhide S5).v.c5
  have f0 := (unhide S5).v.free 0
  have f1 := (unhide S5).v.free 1
  have f2 := (unhide S5).v.free 2
  have f3 := (unhide S5).v.free 3
  have f4 := (unhide S5).v.free 4
  have f5 := (unhide S5).v.free 5
  have B5 := hide (unhide S5).b
  cases ok
  · have IS := hide (show IsAcc x.b no kind z.b 7 from .inr ⟨unhide KZ, qs, false, unhide IP, .inl ⟨rfl, unhide HZ, rfl⟩⟩)
    go_wp2
    refine bodyPost_ret (v := .tuple #[.agg #[.slice (some ⟨z.ga, 0, none⟩) z.b.ac.length z.ca, .slice (some ⟨z.gi, 0, none⟩) z.b.ic.length z.ci, .slice (some ⟨z.gb, 0, none⟩) z.b.bs.length z.cb, .slice (some ⟨z.gl, 0, none⟩) z.b.ls.length z.cl, .slice (some ⟨z.gt, 0, none⟩) z.b.ts.length z.ct, .int .i64 z.b.lot], .int .i64 7]) (by simp [results, Tryz.results13, go_sem, r0, r1, r2, r3, r4, r5]) rfl (.inr ⟨unhide TOLD, z, 7, unhide IS, rfl, ?_, ?_⟩)
    · refine Ow.rebase (base := w1''.heap.size) ?_ (unhide B1).size
      exact ow_six (unhide OZ5) OFR _ _ _ _ _ _
    · exact six (unhide B5) (by omega) _ _ _ _ _ _
  · obtain ⟨y, hy⟩ : ∃ y : Bx, y = { z with ga := g5, ca := k5, b := { z.b with ac := qs } } := ⟨_, rfl⟩
    have IS := hide (show IsAcc x.b no kind { z.b with ac := qs } 0 from .inr ⟨unhide KZ, qs, true, unhide IP, .inr ⟨rfl, by rw [unhide HZ], rfl⟩⟩)
    have OY := hide (show Ow w5 w1''.heap.size { z with ga := g5, ca := k5, b := { z.b with ac := qs } } from { unhide OZ5 with oa := (unhide O5).rebase (by omega) })
    have UPZ := unhide UZ
    have OFO : Off { z with ga := g5, ca := k5, b := { z.b with ac := qs } } w3.heap.size := by
      unfold Up at UPZ
      unfold Off
      simp
      omega
    have OFY : Off { z with ga := g5, ca := k5, b := { z.b with ac := qs } } (w.heap.size + 1) := by
      unfold Off at OFR ⊢
      simp
      omega
    have zz : w.heap.size ≤ w3.heap.size := Nat.le_trans (unhide B1).size zb
    have rz : w.heap.size + 1 ≠ w3.heap.size := by omega
    clear hy y UPZ
    go_wp2
    refine bodyPost_ret (v := .tuple #[.agg #[.slice (some ⟨g5, 0, none⟩) qs.length k5, .slice (some ⟨z.gi, 0, none⟩) z.b.ic.length z.ci, .slice (some ⟨z.gb, 0, none⟩) z.b.bs.length z.cb, .slice (some ⟨z.gl, 0, none⟩) z.b.ls.length z.cl, .slice (some ⟨z.gt, 0, none⟩) z.b.ts.length z.ct, .int .i64 z.b.lot], .int .i64 0]) (by simp [results, Tryz.results13, go_sem, r0, r1, r2, r3, r4, r5]) rfl (.inr ⟨unhide TOLD, { z with ga := g5, ca := k5, b := { z.b with ac := qs } }, 0, unhide IS, rfl, ?_, ?_⟩)
    · refine Ow.rebase (base := w1''.heap.size) ?_ (unhide B1).size
      exact ow_six (ow_set (unhide OY) OFO 0 _) OFY _ _ _ _ _ _
    · exact six ((unhide B5).setCell (p := ⟨w3.heap.size, 0, none⟩) zz _) (by omega) _ _ _ _ _ _
end Go.Proofs.YtlbdfaahcmlddaaGreat.SAccountTell
namespace Go.Proofs.YtlbdfaahcmlddaaGreat.AccountIInsert
open Go.ChangeShapes Go.WideShapes Go.ChangeAt Go.RowKit Pairs Chart Stores
open AccountHelp (info2)
/-- The cells of a list from place c on. -/
theorem tail_cells {e : TypeId} {w : World} {B g n cap : Nat} {ps : List (Int × Int)} (h : Own e w B g n cap ps) (c : Nat) (hc : c ≤ n) : ∀ (j : Nat) (v : Value), (flat (ps.drop c))[j]? = some v → w.cell? ((⟨g, c * 2, none⟩ : Addr).add j) = some v := by
  intro j v hj
  have hl := h.len
  have hX : flat ps = flat (ps.take c) ++ flat (ps.drop c) := by rw [← flat_append, List.take_append_drop]
  have l1 : (flat (ps.take c)).length = c * 2 := by rw [flat_len]; simp; omega
  have e : (flat ps)[c * 2 + j]? = some v := by rw [hX, List.getElem?_append_right (by omega), l1, show c * 2 + j - c * 2 = j by omega]; exact hj
  have := h.at.cells (c * 2 + j) v e
  rw [Addr.add_lit] at this
  rw [Addr.add_lit]
  simpa using this
set_option maxRecDepth 100000 in
theorem iCopied (w : World) (g n cap : Nat) (ps : List (Int × Int)) (hl : ps.length = n) (h20 : n ≤ 1048576) (hg : g < w.heap.size) (h : At w g ps) :
    Calls Tryz.prog 173 #[.agg #[.slice (some ⟨g, 0, none⟩) n cap, .int .i64 20, .int .i64 4]] w fun e w' => ∃ g' c', e = .returned (.slice (some ⟨g', 0, none⟩) n c') ∧ Own 80 w' w.heap.size g' n c' ps ∧ Below w.heap.size w w' := by
  obtain ⟨i0, hi, hz0, hz1, hz2⟩ := info_parts info2
  have b0 : Below w.heap.size w (w.alloc (.cells #[.slice (some ⟨g, 0, none⟩) n cap, .int .i64 20, .int .i64 4] 153)) := (Below.refl _ _).alloc (Nat.le_refl _) _
  have H := hide (h.below b0 hg)
  have HB := hide b0
  clear b0
  have oL : Own 80 ((w.alloc (.cells #[.slice (some ⟨g, 0, none⟩) n cap, .int .i64 20, .int .i64 4] 153)).alloc (.cells #[] 80)) w.heap.size (w.heap.size + 1) 0 0 [] := by
    have := lit0 80 (w.alloc (.cells #[.slice (some ⟨g, 0, none⟩) n cap, .int .i64 20, .int .i64 4] 153)) w.heap.size (by simp)
    simpa using this
  have b1 := (unhide HB).alloc (B := w.heap.size) (by simp) (.cells #[] 80)
  have AL := h.below b1 hg
  clear h
  go_enter Tryz.func173, Tryz.ntmps173
  go_wp2_with (at_builtin; refine wpList_append_own _ rfl (.tmp 3) (.tmp 5) 31 rfl w.heap.size 80 i0 (.agg #[.int .i64 0, .int .i64 0]) 2 16 Tryz.underlying31 hi hz0 hz1 hz2 rfl (by decide) (.slice (some ⟨w.heap.size + 1, 0, none⟩) 0 0) 0 _ rfl oL ⟨g, 0, none⟩ n cap (flat ps) rfl (by rw [flat_len, hl]) AL.cells (fun u hu => flat_one u ps hu) (by unfold maxLen; omega) (by omega) (by simp; omega) ?_)
  intro v2 w2 own2 (gr2 : World.grownBy _ w2 (some (w.heap.size + 1))) nil2
  obtain ⟨g2, c2, rfl, o2⟩ := own_of_row (n' := n) (ps := ps) own2 (by omega) (by rw [flat_nil, List.nil_append]) (by first | exact nil2 | (rw [nil2]; simp))
  have b2 : Below w.heap.size w w2 := b1.grown gr2 (by simp; omega) (by simp)
  clear own2 gr2 nil2 oL b1 AL
  go_wp2
  go_ret
  exact ⟨g2, c2, rfl, o2, b2⟩
set_option maxRecDepth 100000 in
theorem insert_end (w : World) (B g n cap vb : Nat) (ps : List (Int × Int)) (x y : Int) (h20 : n ≤ 1048576) (hB : B ≤ w.heap.size) (ho : Own 80 w B g n cap ps) (hv : Own 80 w B vb 1 1 [(x, y)]) (hne : vb ≠ g) :
    Calls Tryz.prog 172 #[.slice (some ⟨g, 0, none⟩) n cap, .int .i64 n, .slice (some ⟨vb, 0, none⟩) 1 1] w fun e w' => ∃ g' c', e = .returned (.slice (some ⟨g', 0, none⟩) (n + 1) c') ∧ Own 80 w' B g' (n + 1) c' (ins ps n (x, y)) ∧ Below B w w' := by
  obtain ⟨i0, hi, hz0, hz1, hz2⟩ := info_parts info2
  obtain ⟨cap0, cap1⟩ := own_cap ho
  unfold maxLen at cap1
  by_cases ce : cap = n
  · subst ce
    go_enter Tryz.func172, Tryz.ntmps172
    go_wp2_with (at_builtin; refine wpList_append_own _ rfl (.tmp 23) (.tmp 24) 31 rfl B 80 i0 (.agg #[.int .i64 0, .int .i64 0]) 2 16 Tryz.underlying31 hi hz0 hz1 hz2 rfl (by decide) (.slice (some ⟨g, 0, none⟩) cap cap) cap _ rfl ho ⟨vb, 0, none⟩ 1 1 (flat [(x, y)]) rfl (by rw [flat_len]; rfl) hv.at.cells (fun u hu => flat_one u [(x, y)] hu) (by unfold maxLen; omega) (by omega) hB ?_)
    intro v2 w2 own2 (gr2 : World.grownBy _ w2 (some g)) nil2
    obtain ⟨g2, c2, rfl, o2⟩ := own_of_row (n' := cap + 1) (ps := ins ps cap (x, y)) own2 rfl (by rw [← flat_append]; congr 1; unfold ins; rw [← ho.len]; simp) (by first | exact nil2 | (rw [nil2]; simp))
    have lg := ho.lt.1
    have b2 : Below B w w2 := (Below.refl _ _).grown gr2 hB (by simpa using lg)
    clear own2 gr2 nil2
    go_wp2
    go_ret
    exact ⟨g2, c2, rfl, o2, b2⟩
  · have ce2 : ¬ n = cap := fun e => ce e.symm
    go_enter Tryz.func172, Tryz.ntmps172
    go_wp2_with (at_builtin; refine wpList_append_own _ rfl (.tmp 23) (.tmp 24) 31 rfl B 80 i0 (.agg #[.int .i64 0, .int .i64 0]) 2 16 Tryz.underlying31 hi hz0 hz1 hz2 rfl (by decide) (.slice (some ⟨g, 0, none⟩) n cap) n _ rfl ho ⟨vb, 0, none⟩ 1 1 (flat [(x, y)]) rfl (by rw [flat_len]; rfl) hv.at.cells (fun u hu => flat_one u [(x, y)] hu) (by unfold maxLen; omega) (by omega) hB ?_)
    intro v2 w2 own2 (gr2 : World.grownBy _ w2 (some g)) nil2
    obtain ⟨g2, c2, rfl, o2⟩ := own_of_row (n' := n + 1) (ps := ins ps n (x, y)) own2 rfl (by rw [← flat_append]; congr 1; unfold ins; rw [← ho.len]; simp) (by first | exact nil2 | (rw [nil2]; simp))
    have lg := ho.lt.1
    have b2 : Below B w w2 := (Below.refl _ _).grown gr2 hB (by simpa using lg)
    clear own2 gr2 nil2
    go_wp2
    go_ret
    exact ⟨g2, c2, rfl, o2, b2⟩
set_option maxRecDepth 100000 in
theorem insert_room (w : World) (B g n c cap vb : Nat) (ps : List (Int × Int)) (x y : Int) (h20 : n ≤ 1048576) (hB : B ≤ w.heap.size) (hc : c < n) (hr : n + 1 ≤ cap) (ho : Own 80 w B g n cap ps) (hv : Own 80 w B vb 1 1 [(x, y)]) (hne : vb ≠ g) :
    Calls Tryz.prog 172 #[.slice (some ⟨g, 0, none⟩) n cap, .int .i64 c, .slice (some ⟨vb, 0, none⟩) 1 1] w fun e w' => ∃ g' c', e = .returned (.slice (some ⟨g', 0, none⟩) (n + 1) c') ∧ Own 80 w' B g' (n + 1) c' (ins ps c (x, y)) ∧ Below B w w' := by
  obtain ⟨i0, hi, hz0, hz1, hz2⟩ := info_parts info2
  obtain ⟨cap0, cap1⟩ := own_cap ho
  unfold maxLen at cap1
  have nz : ¬ ((c : Int) = (n : Int)) := by omega
  have nr : ¬ ((cap : Int) < (n : Int) + 1) := by omega
  obtain ⟨U, hU, row0⟩ := row_more ho hr
  have hlen := ho.len
  obtain ⟨sg, fg⟩ := own_shape row0
  obtain ⟨sv, fv⟩ := own_shape hv
  have hsz : (Tryz.prog.info? 80).map (·.size) = some 2 := by rw [hi]; simp [hz1]
  have hzs : ∀ w, (Go.sizeOf 80).run Tryz.prog w = .ok 2 w := fun w => by simp [sizeOf, typeInfo, hi, hz1]
  have hov : ∀ lb cb, (callFunc 200 #[.slice (some ⟨vb, 0, none⟩) 1 1, .slice (some ⟨g, (c + 1) * 2, none⟩) lb cb]).run Tryz.prog w = .ok (.value (.bool false)) w := fun lb cb => by
    rw [run_callFunc_extern Tryz.func200 (by kernel_rfl) (by kernel_rfl) (by kernel_rfl) (e := Extern.SlicesOverlaps.overlaps #[31, 31] #[4]) (by kernel_rfl),
      Lib.run_overlaps_apart w 31 4 80 Tryz.underlying31 2 hzs ⟨vb, 0, none⟩ ⟨g, (c + 1) * 2, none⟩ 1 1 lb cb hne _ _ _ _ sv sg (by omega) (fv _) (fv _)]
    rfl
  have hdl : (ps.drop c).length = n - c := by rw [List.length_drop, hlen]
  have tail : ∀ j v, (flat (ps.drop c))[j]? = some v → w.cell? ((⟨g, c * 2, none⟩ : Addr).add j) = some v := tail_cells ho c (by omega)
  have hcp1 : ∀ ty dc sc, (Builtin.copy_ #[31, 31] ty #[.slice (some ⟨g, (c + 1) * 2, none⟩) (n - c) dc, .slice (some ⟨g, c * 2, none⟩) (n + 1 - c) sc]).run Tryz.prog w.drew = .ok (goInt (ps.drop c).length) (w.drew.setCells g ((c + 1) * 2) (flat (ps.drop c))) := fun ty dc sc =>
    run_copy2 w.drew _ _ ty 80 g ((c + 1) * 2) (n - c) dc ⟨g, c * 2, none⟩ (n + 1 - c) sc (ps.drop c) Tryz.underlying31 hsz (by rw [hdl]; simp only [Nat.min_def]; split <;> omega) tail (fun j hj => row_some row0 _ (by rw [hdl] at hj; omega)) fg
  obtain ⟨W1, hW1⟩ : ∃ W1, W1 = w.drew.setCells g ((c + 1) * 2) (flat (ps.drop c)) := ⟨_, rfl⟩
  obtain ⟨row1, gr1⟩ := row_set (flat (ps.drop c)) ((c + 1) * 2) w.drew _ (World.ownsRow.drew row0)
  rw [← hW1] at hcp1 row1 gr1
  have hv1 := (Own.drew hv).kept gr1 (by simpa using hne)
  have hcp2 : ∀ ty dc, (Builtin.copy_ #[31, 31] ty #[.slice (some ⟨g, c * 2, none⟩) (n + 1 - c) dc, .slice (some ⟨vb, 0, none⟩) 1 1]).run Tryz.prog W1 = .ok (goInt [(x, y)].length) (W1.setCells g (c * 2) (flat [(x, y)])) := fun ty dc =>
    run_copy2 W1 _ _ ty 80 g (c * 2) (n + 1 - c) dc ⟨vb, 0, none⟩ 1 1 [(x, y)] Tryz.underlying31 hsz (by simp only [Nat.min_def, List.length_singleton]; split <;> omega) hv1.at.cells (fun j hj => row_some row1 _ (by simp at hj; omega)) (own_shape row1).2
  obtain ⟨row2, gr2⟩ := row_set (flat [(x, y)]) (c * 2) W1 _ row1
  have own2 : Own 80 (W1.setCells g (c * 2) (flat [(x, y)])) B g (n + 1) cap (ins ps c (x, y)) := by
    have e := shift_then_put ps c x y U hU (by omega)
    unfold Own
    rw [← e]
    exact row2
  have lg := ho.lt.1
  have bel : Below B w (W1.setCells g (c * 2) (flat [(x, y)])) := (((Below.refl B w).drew).grown gr1 hB (by simpa using lg)).grown gr2 (Nat.le_trans hB gr1.size) (by simpa using lg)
  generalize W1.setCells g (c * 2) (flat [(x, y)]) = W2 at *
  have HO := hide own2
  have HB := hide bel
  clear row0 row1 row2 gr1 gr2 own2 bel ho hv hv1 sg fg sv fv hW1 tail hzs
  have mixed : Tryz.prog.follows .mixedOrders = true := by kernel_rfl
  have hw1 : IntKind.i64.wrap ((c : Int) + 1) = (c : Int) + 1 := by rw [IntKind.wrap_i64]; omega
  have k1 : (0 : Int) ≤ (c : Int) + 1 := by omega
  have k2 : ((c : Int) + 1).toNat = c + 1 := by omega
  have k3 : (c : Int) ≤ (n : Int) := by omega
  have k4 : (c : Int) ≤ (n : Int) + 1 := by omega
  have k5 : ¬ cap = c := by omega
  have k6 : ¬ cap = c + 1 := by omega
  have k7 : (c : Int) + 1 ≤ (n : Int) + 1 := by omega
  go_enter Tryz.func172, Tryz.ntmps172
  go_wp2_with (simp only [hov])
  go_region_law_o (refine step_copy_runI rfl _ _ 31 31 rfl _ _ (by simp [Act.eval, Act.put]) (by simp [Act.eval, Act.put]) (hcp1 _ _ _) ?_)
  go_wp2_with (at_builtin; refine wpList_copy_runI _ rfl _ _ 31 31 rfl _ _ rfl rfl (hcp2 _ _) ?_)
  go_ret
  exact ⟨g, cap, rfl, unhide HO, unhide HB⟩
set_option maxRecDepth 100000 in
theorem insert_grow (w : World) (B g n c cap vb : Nat) (ps : List (Int × Int)) (x y : Int) (h20 : n ≤ 1048576) (hB : B ≤ w.heap.size) (hc : c < n) (hr : ¬ n + 1 ≤ cap) (ho : Own 80 w B g n cap ps) (hv : Own 80 w B vb 1 1 [(x, y)]) (hne : vb ≠ g) :
    Calls Tryz.prog 172 #[.slice (some ⟨g, 0, none⟩) n cap, .int .i64 c, .slice (some ⟨vb, 0, none⟩) 1 1] w fun e w' => ∃ g' c', e = .returned (.slice (some ⟨g', 0, none⟩) (n + 1) c') ∧ Own 80 w' B g' (n + 1) c' (ins ps c (x, y)) ∧ Below B w w' := by
  obtain ⟨i0, hi, hz0, hz1, hz2⟩ := info_parts info2
  obtain ⟨cap0, cap1⟩ := own_cap ho
  unfold maxLen at cap1
  have nz : ¬ ((c : Int) = (n : Int)) := by omega
  have nr : ((cap : Int) < (n : Int) + 1) := by omega
  have hlen := ho.len
  have hsz : (Tryz.prog.info? 80).map (·.size) = some 2 := by rw [hi]; simp [hz1]
  have l1 : (flat (ps.take c)).length = c * 2 := by rw [flat_len]; simp; omega
  have hold : (Builtin.firstCells i0.size c (.slice (some ⟨g, 0, none⟩) c cap)).run Tryz.prog w.drew = .ok (flat (ps.take c)).toArray w.drew := by
    rw [hz1]
    exact run_firstCells_some w.drew 2 c ⟨g, 0, none⟩ c cap (flat (ps.take c)) l1 (fun j v hj => by
      have hX : flat ps = flat (ps.take c) ++ flat (ps.drop c) := by rw [← flat_append, List.take_append_drop]
      have hjl : j < (flat (ps.take c)).length := (List.getElem?_eq_some_iff.1 hj).1
      exact ho.at.cells j v (by rw [hX, List.getElem?_append_left hjl]; exact hj))
  obtain ⟨G, hG⟩ : ∃ G, G = grownCap w (n + 1) cap 80 := ⟨_, rfl⟩
  have hG1 : n + 1 ≤ G := by rw [hG]; exact grownCap_ge w _ _ _
  have hG2 : G ≤ maxLen := by rw [hG]; exact grownCap_le_maxLen w _ _ _ (by unfold maxLen; omega)
  obtain ⟨ROW, hROW⟩ : ∃ ROW : Array Value, ROW = (flat (ps.take c)).toArray ++ Builtin.zeroCells (Value.agg #[.int .i64 0, .int .i64 0]).cells (n + 1 - c) ++ Builtin.zeroCells (Value.agg #[.int .i64 0, .int .i64 0]).cells (G - (n + 1)) := ⟨_, rfl⟩
  have hrz : ∀ ty, (Builtin.append_ #[31, 3] ty #[.slice (some ⟨g, 0, none⟩) c cap, .int .i64 ((n : Int) + 1 - (c : Int))]).run Tryz.prog w = .ok (.slice (some ⟨w.heap.size, 0, none⟩) (n + 1) G) (w.drew.alloc (.cells ROW 80)) := fun ty => by
    have h := Lib.run_append_grow_zeros w 31 3 ty 80 i0 _ .i64 .i64 Tryz.underlying31 Tryz.underlying3 hi hz0 (some ⟨g, 0, none⟩) c cap (flat (ps.take c)) hold (n + 1 - c) (by omega) (by rw [hz1]; decide) (by omega) (by omega) (by rw [hz2]; omega) (by rw [hz2]; exact growslice_fits (by omega) (by omega))
    rw [show c + (n + 1 - c) = n + 1 by omega, ← hG, ← hROW] at h
    rw [show (n : Int) + 1 - (c : Int) = ((n + 1 - c : Nat) : Int) by omega]
    exact h
  have hRs : ROW.size = G * 2 := by
    rw [hROW]
    simp [Builtin.zeroCells, Value.cells, l1]
    omega
  obtain ⟨Z, hZ, hT⟩ : ∃ Z : List Value, Z.length = (ps.length + 1 - c) * 2 ∧ ROW.toList.take ((n + 1) * 2) = flat (ps.take c) ++ Z := by
    refine ⟨(Builtin.zeroCells (Value.agg #[.int .i64 0, .int .i64 0]).cells (n + 1 - c)).toList, by simp [Builtin.zeroCells, Value.cells]; omega, ?_⟩
    rw [hROW, Array.toList_append, Array.toList_append]
    rw [List.take_append_of_le_length (by simp [Builtin.zeroCells, Value.cells, l1]; omega), List.take_of_length_le (by simp [Builtin.zeroCells, Value.cells, l1]; omega)]
  obtain ⟨W1, hW1⟩ : ∃ W1, W1 = w.drew.alloc (.cells ROW 80) := ⟨_, rfl⟩
  have row1 : W1.ownsRow B 80 2 (.slice (some ⟨w.heap.size, 0, none⟩) (n + 1) G) (n + 1) (flat (ps.take c) ++ Z) := by
    rw [hW1]
    exact ⟨by rw [List.length_append, l1, hZ]; omega, .inr ⟨w.heap.size, G, ROW, rfl, hB, heap_alloc_new w.drew _, hG1, hG2, hRs, hT⟩⟩
  have gr1 : w.grownBy W1 none := by rw [hW1]; exact ⟨rfl, rfl, rfl, by simp, fun k hk _ => Below.heap_alloc w.drew _ k hk⟩
  rw [← hW1] at hrz
  have ho1 := ho.kept gr1 (by simp)
  have hv1 := hv.kept gr1 (by simp)
  have lg := ho.lt
  have lv := hv.lt
  have hcpA : ∀ ty dc, (Builtin.copy_ #[31, 31] ty #[.slice (some ⟨w.heap.size, c * 2, none⟩) (n + 1 - c) dc, .slice (some ⟨vb, 0, none⟩) 1 1]).run Tryz.prog W1 = .ok (goInt [(x, y)].length) (W1.setCells w.heap.size (c * 2) (flat [(x, y)])) := fun ty dc =>
    run_copy2 W1 _ _ ty 80 w.heap.size (c * 2) (n + 1 - c) dc ⟨vb, 0, none⟩ 1 1 [(x, y)] Tryz.underlying31 hsz (by simp only [Nat.min_def, List.length_singleton]; split <;> omega) hv1.at.cells (fun j hj => row_some row1 _ (by simp at hj; omega)) (own_shape row1).2
  obtain ⟨row2, gr2⟩ := row_set (flat [(x, y)]) (c * 2) W1 _ row1
  have ho2 := ho1.kept gr2 (by simp; omega)
  generalize hW2 : W1.setCells w.heap.size (c * 2) (flat [(x, y)]) = W2 at *
  have hdl : (ps.drop c).length = n - c := by rw [List.length_drop, hlen]
  have hcpB : ∀ ty dc sc, (Builtin.copy_ #[31, 31] ty #[.slice (some ⟨w.heap.size, (c + 1) * 2, none⟩) (n - c) dc, .slice (some ⟨g, c * 2, none⟩) (n - c) sc]).run Tryz.prog W2.drew = .ok (goInt (ps.drop c).length) (W2.drew.setCells w.heap.size ((c + 1) * 2) (flat (ps.drop c))) := fun ty dc sc =>
    run_copy2 W2.drew _ _ ty 80 w.heap.size ((c + 1) * 2) (n - c) dc ⟨g, c * 2, none⟩ (n - c) sc (ps.drop c) Tryz.underlying31 hsz (by rw [hdl]; simp) (tail_cells ho2 c (by omega)) (fun j hj => row_some row2 _ (by rw [hdl] at hj; omega)) (own_shape row2).2
  obtain ⟨row3, gr3⟩ := row_set (flat (ps.drop c)) ((c + 1) * 2) W2.drew _ (World.ownsRow.drew row2)
  generalize hW3 : W2.drew.setCells w.heap.size ((c + 1) * 2) (flat (ps.drop c)) = W3 at *
  have own3 : Own 80 W3 B w.heap.size (n + 1) G (ins ps c (x, y)) := by
    have e := put_then_tail ps c x y Z hZ (by omega)
    unfold Own
    rw [← e]
    exact row3
  have bel : Below B w W3 := ((((Below.refl B w).grown gr1 hB (by simp)).grown gr2 (Nat.le_trans hB gr1.size) (by simpa using hB)).drew).grown gr3 (Nat.le_trans hB (Nat.le_trans gr1.size gr2.size)) (by simpa using hB)
  have G63 : (G : Int) ≤ 9223372036854775807 := by unfold maxLen at hG2; omega
  have HO := hide own3
  have HB := hide bel
  clear row1 row2 row3 gr1 gr2 gr3 own3 bel ho hv ho1 ho2 hv1 hW1 hW2 hW3 hold hT hROW hG hRs hZ
  have mixed : Tryz.prog.follows .mixedOrders = true := by kernel_rfl
  have hw1 : IntKind.i64.wrap ((c : Int) + 1) = (c : Int) + 1 := by rw [IntKind.wrap_i64]; omega
  have k1 : (0 : Int) ≤ (c : Int) + 1 := by omega
  have k2 : ((c : Int) + 1).toNat = c + 1 := by omega
  have k3 : (c : Int) ≤ (n : Int) := by omega
  have k4 : (c : Int) ≤ (n : Int) + 1 := by omega
  have k5 : ¬ cap = c := by omega
  have k6 : ¬ G = c + 1 := by omega
  have k7 : (c : Int) + 1 ≤ (n : Int) + 1 := by omega
  have k8 : ¬ G = c := by omega
  go_enter Tryz.func172, Tryz.ntmps172
  go_wp2_with (first
    | (at_builtin; refine Lib.wpList_append_run _ rfl _ _ _ _ rfl _ _ rfl rfl _ _ (hrz _) ?_)
    | (at_builtin; refine wpList_copy_runI _ rfl _ _ 31 31 rfl _ _ rfl rfl (hcpA _ _) ?_))
  go_region_law_o (refine step_copy_runI rfl _ _ 31 31 rfl (.slice (some ⟨w.heap.size, (c + 1) * 2, none⟩) (n - c) (G - (c + 1))) (.slice (some ⟨g, c * 2, none⟩) (n - c) (cap - c)) (by simp [Act.eval, Act.put]) (by simp [Act.eval, Act.put]) (hcpB _ _ _) ?_)
  go_wp2
  go_ret
  exact ⟨w.heap.size, G, rfl, unhide HO, unhide HB⟩
/-- Insert at any place of a list of the call's own. -/
theorem iInsert (w : World) (B g n c cap vb : Nat) (ps : List (Int × Int)) (x y : Int) (h20 : n ≤ 1048576) (hB : B ≤ w.heap.size) (hc : c ≤ n) (ho : Own 80 w B g n cap ps) (hv : Own 80 w B vb 1 1 [(x, y)]) (hne : vb ≠ g) :
    Calls Tryz.prog 172 #[.slice (some ⟨g, 0, none⟩) n cap, .int .i64 c, .slice (some ⟨vb, 0, none⟩) 1 1] w fun e w' => ∃ g' c', e = .returned (.slice (some ⟨g', 0, none⟩) (n + 1) c') ∧ Own 80 w' B g' (n + 1) c' (ins ps c (x, y)) ∧ Below B w w' := by
  rcases Nat.lt_or_eq_of_le hc with l | l
  · by_cases r : n + 1 ≤ cap
    · exact insert_room w B g n c cap vb ps x y h20 hB l r ho hv hne
    · exact insert_grow w B g n c cap vb ps x y h20 hB l r ho hv hne
  · subst l
    exact insert_end w B g c cap vb ps x y h20 hB ho hv hne
end Go.Proofs.YtlbdfaahcmlddaaGreat.AccountIInsert
namespace Go.Proofs.YtlbdfaahcmlddaaGreat.AccountIPut
open Go.ChangeShapes Go.WideShapes Go.ChangeAt Go.RowKit Pairs Chart AccountIOk AccountIPlace AccountIKind AccountIInsert
theorem At.more {w : World} {g : Nat} {ps : List (Int × Int)} (h : At w g ps) (hg : g < w.heap.size) (o : Obj) : At (w.alloc o) g ps := h.below ((Below.refl w.heap.size w).alloc (Nat.le_refl _) o) hg
/-- What stands behind the store of a list into the chart that comes. -/
theorem stored_next {w w2 w3 w6 w7 : World} {g n g6 k6 : Nat} {v v1 v2 u u1 u2 : Value} {ps qs : List (Int × Int)} (hw7 : w7 = w6.setCell ⟨w2.heap.size, 0, none⟩ v) (s3 : w2.heap.size < w3.heap.size) (s2 : w.heap.size < w2.heap.size) (hg : g < w2.heap.size) (hl : ps.length = n)
    (ho : Own 80 w6 w3.heap.size g6 (n + 1) k6 qs) (e60 : w6.cell? ⟨w2.heap.size, 0, none⟩ = some u) (e61 : w6.cell? ⟨w2.heap.size, 1, none⟩ = some v1) (e62 : w6.cell? ⟨w2.heap.size, 2, none⟩ = some v2)
    (c60 : w6.cell? ⟨w.heap.size, 0, none⟩ = some u) (c61 : w6.cell? ⟨w.heap.size, 1, none⟩ = some u1) (c62 : w6.cell? ⟨w.heap.size, 2, none⟩ = some u2) (hA : At w6 g ps) (hB : Below w.heap.size w w6) :
    Own 80 w7 w3.heap.size g6 (n + 1) k6 qs ∧ At w7 g6 qs ∧ g6 < w7.heap.size ∧ w7.cell? ⟨w2.heap.size, 0, none⟩ = some v ∧ w7.cell? ⟨w2.heap.size, 1, none⟩ = some v1 ∧ w7.cell? ⟨w2.heap.size, 2, none⟩ = some v2 ∧
      w7.cell? ⟨w.heap.size, 0, none⟩ = some u ∧ w7.cell? ⟨w.heap.size, 1, none⟩ = some u1 ∧ w7.cell? ⟨w.heap.size, 2, none⟩ = some u2 ∧ At w7 g ps ∧ Below w.heap.size w w7 := by
  have l6 := ho.lt
  have hgr : w6.grownBy w7 (some w2.heap.size) := by
    rw [hw7]
    exact ⟨rfl, rfl, rfl, by simp [World.setCell], fun k _ hk => Below.heap_setCell _ _ _ _ (fun e => hk (by rw [e]))⟩
  have o7 := ho.kept hgr (by simp; omega)
  have oth : ∀ (b o : Nat), b ≠ w2.heap.size → w7.cell? ⟨b, o, none⟩ = w6.cell? ⟨b, o, none⟩ := fun b o hb => by
    rw [hw7]
    exact World.cell?_setCell_other _ _ _ _ (fun e => hb (by simpa using (congrArg Addr.block e).symm))
  have oth2 : ∀ (o : Nat), o ≠ 0 → w7.cell? ⟨w2.heap.size, o, none⟩ = w6.cell? ⟨w2.heap.size, o, none⟩ := fun o ho => by
    rw [hw7]
    exact World.cell?_setCell_other _ _ _ _ (fun e => ho (by simpa using (congrArg Addr.off e).symm))
  refine ⟨o7, o7.at, o7.lt.2, ?_, (oth2 1 (by omega)).trans e61, (oth2 2 (by omega)).trans e62, (oth _ 0 (by omega)).trans c60, (oth _ 1 (by omega)).trans c61, (oth _ 2 (by omega)).trans c62, fun i hi => ⟨(oth _ _ (by omega)).trans (hA i hi).1, (oth _ _ (by omega)).trans (hA i hi).2⟩, ?_⟩
  · rw [hw7]
    exact World.cell?_setCell_same _ _ _ e60
  · rw [hw7]
    exact hB.setCell (by show w.heap.size ≤ w2.heap.size; omega) _
set_option maxRecDepth 100000 in
set_option maxHeartbeats 8000000 in
theorem iChartPut (w : World) (g n cap : Nat) (ps : List (Int × Int)) (x y : Int) (hl : ps.length = n) (h20 : n ≤ 1048576) (hg : g < w.heap.size) (h : At w g ps) :
    Calls Tryz.prog 151 #[.agg #[.slice (some ⟨g, 0, none⟩) n cap, .int .i64 20, .int .i64 4], .agg #[.int .i64 x, .int .i64 y]] w fun e w' => ∃ qs ok g' c', IsPut 20 4 ps (x, y) qs ok ∧
      e = .returned (.tuple #[.slice (some ⟨g', 0, none⟩) qs.length c', .bool ok]) ∧ Own 80 w' w.heap.size g' qs.length c' qs ∧ Below w.heap.size w w' := by
  obtain ⟨ok, OK⟩ := says_of 20 4 ps
  have hfd : ∀ w : World, (Instr.field 177 (.agg #[.int .i64 x, .int .i64 y]) 0).run Tryz.prog w = .ok (.int .i64 x) w := fun _ => by kernel_rfl
  obtain ⟨W0, hW0⟩ : ∃ W0, W0 = (w.alloc (.cells #[.slice (some ⟨g, 0, none⟩) n cap, .int .i64 20, .int .i64 4] 153)).alloc (.cells #[.int .i64 x, .int .i64 y] 80) := ⟨_, rfl⟩
  have s0 : W0.heap.size = w.heap.size + 2 := by rw [hW0]; simp
  have b0 : Below w.heap.size w W0 := by rw [hW0]; exact ((Below.refl _ _).alloc (Nat.le_refl _) _).alloc (by simp) _
  have c00 : W0.cell? ⟨w.heap.size, 0, none⟩ = some (.slice (some ⟨g, 0, none⟩) n cap) := by rw [hW0]; simp
  have c01 : W0.cell? ⟨w.heap.size, 1, none⟩ = some (.int .i64 20) := by rw [hW0]; simp
  have c02 : W0.cell? ⟨w.heap.size, 2, none⟩ = some (.int .i64 4) := by rw [hW0]; simp
  have d00 : W0.cell? ⟨w.heap.size + 1, 0, none⟩ = some (.int .i64 x) := by rw [hW0]; simp
  have d01 : W0.cell? ⟨w.heap.size + 1, 1, none⟩ = some (.int .i64 y) := by rw [hW0]; simp
  have A0 := hide (h.below b0 hg)
  have B0 := hide b0
  clear h b0
  cases ok
  · go_enter Tryz.func151, Tryz.ntmps151
    go_wp2_with fail
    rw [← hW0]
    refine (iOk _ g n cap ps false hl h20 (by omega) (unhide A0) OK).mono ?_
    rintro e w1 ⟨rfl, b1⟩
    have B1 := hide (next (unhide B0) b1)
    have s1 := b1.size
    clear b1 c00 c01 c02 d00 d01 hW0
    go_wp2
    go_ret2
    refine ⟨[], false, w1.heap.size, 0, .inl ⟨OK.no, rfl, rfl⟩, rfl, lit0 _ w1 w.heap.size (by omega), (unhide B1).alloc (by omega) _⟩
  · have n20 : n ≤ 20 := by have := OK.yes.1; omega
    go_enter Tryz.func151, Tryz.ntmps151
    go_wp2_with fail
    rw [← hW0]
    refine (iOk _ g n cap ps true hl h20 (by omega) (unhide A0) OK).mono ?_
    rintro e w1 ⟨rfl, b1⟩
    clear hW0
    have s1 := b1.size
    have A1 := hide ((unhide A0).below b1 (by omega))
    have B1 := hide (next (unhide B0) b1)
    have c10 := (b1.cell (p := ⟨w.heap.size, 0, none⟩) (by show w.heap.size < _; omega)).trans c00
    have c11 := (b1.cell (p := ⟨w.heap.size, 1, none⟩) (by show w.heap.size < _; omega)).trans c01
    have c12 := (b1.cell (p := ⟨w.heap.size, 2, none⟩) (by show w.heap.size < _; omega)).trans c02
    have d10 := (b1.cell (p := ⟨w.heap.size + 1, 0, none⟩) (by show w.heap.size + 1 < _; omega)).trans d00
    have d11 := (b1.cell (p := ⟨w.heap.size + 1, 1, none⟩) (by show w.heap.size + 1 < _; omega)).trans d01
    clear b1 c00 c01 c02 d00 d01
    go_wp2_with fail
    refine (iPlace _ g n cap ps x hl h20 (by omega) (unhide A1) (hide OK.yes.asc)).mono ?_
    rintro e w2 ⟨c, f, hc, hf, rfl, b2⟩
    have s2 := b2.size
    have A2 := hide ((unhide A1).below b2 (by omega))
    have B2 := hide (next (unhide B1) b2)
    have c20 := (b2.cell (p := ⟨w.heap.size, 0, none⟩) (by show w.heap.size < _; omega)).trans c10
    have c21 := (b2.cell (p := ⟨w.heap.size, 1, none⟩) (by show w.heap.size < _; omega)).trans c11
    have c22 := (b2.cell (p := ⟨w.heap.size, 2, none⟩) (by show w.heap.size < _; omega)).trans c12
    have d20 := (b2.cell (p := ⟨w.heap.size + 1, 0, none⟩) (by show w.heap.size + 1 < _; omega)).trans d10
    have d21 := (b2.cell (p := ⟨w.heap.size + 1, 1, none⟩) (by show w.heap.size + 1 < _; omega)).trans d11
    have PC := hide hc
    have cn : c ≤ n := by have := hc.1; omega
    clear b2 c10 c11 c12 d10 d11 hc hf
    go_wp2_with fail
    obtain ⟨w3, hw3⟩ : ∃ w3, w3 = w2.alloc (.cells #[.slice (some ⟨g, 0, none⟩) n cap, .int .i64 20, .int .i64 4] 153) := ⟨_, rfl⟩
    have s3 : w2.heap.size < w3.heap.size := by rw [hw3]; simp
    have b3 : Below w2.heap.size w2 w3 := by rw [hw3]; exact (Below.refl _ _).alloc (Nat.le_refl _) _
    have A3 : At w3 g ps := (unhide A2).below b3 (by omega)
    have B3 := hide (next (unhide B2) b3)
    have c30 := (b3.cell (p := ⟨w.heap.size, 0, none⟩) (by show w.heap.size < _; omega)).trans c20
    have c31 := (b3.cell (p := ⟨w.heap.size, 1, none⟩) (by show w.heap.size < _; omega)).trans c21
    have c32 := (b3.cell (p := ⟨w.heap.size, 2, none⟩) (by show w.heap.size < _; omega)).trans c22
    have d30 := (b3.cell (p := ⟨w.heap.size + 1, 0, none⟩) (by show w.heap.size + 1 < _; omega)).trans d20
    have d31 := (b3.cell (p := ⟨w.heap.size + 1, 1, none⟩) (by show w.heap.size + 1 < _; omega)).trans d21
    have e30 : w3.cell? ⟨w2.heap.size, 0, none⟩ = some (.slice (some ⟨g, 0, none⟩) n cap) := by rw [hw3]; simp
    have e31 : w3.cell? ⟨w2.heap.size, 1, none⟩ = some (.int .i64 20) := by rw [hw3]; simp
    have e32 : w3.cell? ⟨w2.heap.size, 2, none⟩ = some (.int .i64 4) := by rw [hw3]; simp
    have f30 : w3.frozen? ⟨w2.heap.size, 0, none⟩ = false := by rw [hw3]; simp
    rw [← hw3]
    have bV : Below w3.heap.size w3 (w3.alloc (.cells #[.int .i64 x, .int .i64 y] 80)) := (Below.refl _ _).alloc (Nat.le_refl _) _
    have v30 := (bV.cell (p := ⟨w.heap.size, 0, none⟩) (by show w.heap.size < _; omega)).trans c30
    have v31 := (bV.cell (p := ⟨w.heap.size, 1, none⟩) (by show w.heap.size < _; omega)).trans c31
    have v32 := (bV.cell (p := ⟨w.heap.size, 2, none⟩) (by show w.heap.size < _; omega)).trans c32
    clear bV
    have AA := hide A3
    clear A3 hw3 b3 c20 c21 c22 d20 d21
    go_region_with (first
      | (go_at_call 173
         refine (iCopied _ g n cap ps hl h20 (by simp; omega) (by first | exact unhide AA | exact At.more (unhide AA) (by omega) _)).mono ?_
         rintro e w4 ⟨g4, k4, rfl, o4, b4⟩
         have bw : Below w3.heap.size w3 w4 := by first | exact (Below.refl w3.heap.size w3).drew.trans b4 | exact ((Below.refl w3.heap.size w3).drew.alloc (Nat.le_refl _) _).trans (b4.mono (by simp))
         have s4 := bw.size
         have d40 := (bw.cell (p := ⟨w.heap.size + 1, 0, none⟩) (by show w.heap.size + 1 < _; omega)).trans d30
         have d41 := (bw.cell (p := ⟨w.heap.size + 1, 1, none⟩) (by show w.heap.size + 1 < _; omega)).trans d31)
      | (go_at_call_of 172 (Value.slice (some ⟨w4.heap.size, 0, none⟩) 1 1)
         refine (iInsert _ w3.heap.size g4 n c k4 w4.heap.size ps x y (by omega) (by simp; omega) cn ((o4.rebase (by have := o4.lt.1; simpa using this)).alloc _) (lit1 _ w4 w3.heap.size x y s4) (by have := o4.lt; omega)).mono ?_
         rintro e w6 ⟨g6, k6, rfl, o6, b6⟩
         have BB : Below w3.heap.size w3 w6 := (bw.alloc s4 _).trans b6
         have e60 := (BB.cell (p := ⟨w2.heap.size, 0, none⟩) (by show w2.heap.size < _; omega)).trans e30
         have f60 := (BB.frozen (p := ⟨w2.heap.size, 0, none⟩) (by show w2.heap.size < _; omega)).trans f30
         have HO6 := hide o6
         have HB6 := hide BB
         clear o6 b6 BB o4 b4 bw)
      | (go_at_call_of 172 (Value.slice (some ⟨w3.heap.size, 0, none⟩) 1 1)
         refine (iInsert _ w3.heap.size g4 n c k4 w3.heap.size ps x y (by omega) s4 cn (o4.rebase (by have := o4.lt.1; simp at this; omega)) ((lit1 80 w3.drew w3.heap.size x y (Nat.le_refl _)).below b4 (by simp)) (by have := o4.lt.1; simp at this; omega)).mono ?_
         rintro e w6 ⟨g6, k6, rfl, o6, b6⟩
         have BB : Below w3.heap.size w3 w6 := bw.trans b6
         have e60 := (BB.cell (p := ⟨w2.heap.size, 0, none⟩) (by show w2.heap.size < _; omega)).trans e30
         have f60 := (BB.frozen (p := ⟨w2.heap.size, 0, none⟩) (by show w2.heap.size < _; omega)).trans f30
         have HO6 := hide o6
         have HB6 := hide BB
         clear o6 b6 BB o4 b4 bw))
    all_goals
      (obtain ⟨w7, hw7⟩ : ∃ w7, w7 = w6.setCell ⟨w2.heap.size, 0, none⟩ (.slice (some ⟨g6, 0, none⟩) (n + 1) k6) := ⟨_, rfl⟩
       have e61 := ((unhide HB6).cell (p := ⟨w2.heap.size, 1, none⟩) s3).trans e31
       have e62 := ((unhide HB6).cell (p := ⟨w2.heap.size, 2, none⟩) s3).trans e32
       have c60 := ((unhide HB6).cell (p := ⟨w.heap.size, 0, none⟩) (by show w.heap.size < _; omega)).trans c30
       have c61 := ((unhide HB6).cell (p := ⟨w.heap.size, 1, none⟩) (by show w.heap.size < _; omega)).trans c31
       have c62 := ((unhide HB6).cell (p := ⟨w.heap.size, 2, none⟩) (by show w.heap.size < _; omega)).trans c32
       have A6 := (unhide AA).below (unhide HB6) (by omega)
       have l6 := (unhide HO6).lt
       have s6 := (unhide HB6).size
       obtain ⟨own7, at7, sz7, e70, e71, e72, c70, c71, c72, A7, B7⟩ := stored_next hw7 s3 (by omega) (by omega) hl (unhide HO6) e60 e61 e62 c60 c61 c62 A6 ((unhide B3).trans ((unhide HB6).mono (by omega)))
       rw [← hw7]
       clear hw7 e30 e31 e32 f30 e60 f60 e61 e62 c60 c61 c62 c30 c31 c32 d30 d31 d40 d41 v30 v31 v32 HO6 HB6 A6
       obtain ⟨ok2, OK2⟩ := says_of 20 4 (ins ps c (x, y))
       have li : (ins ps c (x, y)).length = n + 1 := by rw [ins_len _ _ _ (by omega)]; omega
       have O7 := hide own7
       have T7 := hide at7
       have G7 := hide A7
       have H7 := hide B7
       have LI := hide li
       clear own7 at7 A7 B7 li
       cases ok2
       · go_wp2_with fail
         refine (iOk _ g6 (n + 1) k6 (ins ps c (x, y)) false (unhide LI) (by omega) (by omega) (unhide T7) OK2).mono ?_
         rintro e w8 ⟨rfl, b8⟩
         have s8 := b8.size
         have c80 := (b8.cell (p := ⟨w.heap.size, 0, none⟩) (by show w.heap.size < _; omega)).trans c70
         have c81 := (b8.cell (p := ⟨w.heap.size, 1, none⟩) (by show w.heap.size < _; omega)).trans c71
         have c82 := (b8.cell (p := ⟨w.heap.size, 2, none⟩) (by show w.heap.size < _; omega)).trans c72
         have G8 := hide ((unhide G7).below b8 (by omega))
         have H8 := hide (next (unhide H7) b8)
         clear b8 e70 e71 e72 c70 c71 c72
         go_wp2_with fail
         refine (iCopied _ g n cap ps hl h20 (by omega) (unhide G8)).mono ?_
         rintro e w9 ⟨g9, k9, rfl, o9, b9⟩
         have O9 := hide (o9.rebase (base' := w.heap.size) (by have := o9.lt.1; omega))
         have H9 := hide (next (unhide H8) b9)
         clear o9 b9
         go_wp2
         go_ret2
         exact ⟨ps, false, g9, k9, .inr ⟨OK.yes, c, unhide PC, .inl ⟨OK2.no, rfl, rfl⟩⟩, by rw [hl]; rfl, by rw [hl]; exact unhide O9, unhide H9⟩
       · go_wp2_with fail
         refine (iOk _ g6 (n + 1) k6 (ins ps c (x, y)) true (unhide LI) (by omega) (by omega) (unhide T7) OK2).mono ?_
         rintro e w8 ⟨rfl, b8⟩
         have e80 := (b8.cell (p := ⟨w2.heap.size, 0, none⟩) (by show w2.heap.size < _; omega)).trans e70
         have O8 := hide (((unhide O7).below b8 (by omega)).rebase (base' := w.heap.size) (by omega))
         have H8 := hide (next (unhide H7) b8)
         clear b8 e70 e71 e72 c70 c71 c72
         go_wp2
         go_ret2
         exact ⟨ins ps c (x, y), true, g6, k6, .inr ⟨OK.yes, c, unhide PC, .inr ⟨OK2.yes, rfl, rfl⟩⟩, by rw [unhide LI]; rfl, by rw [unhide LI]; exact unhide O8, unhide H8⟩)
set_option maxRecDepth 100000 in
theorem iPut (w : World) (g n cap : Nat) (ps : List (Int × Int)) (x y : Int) (hl : ps.length = n) (h20 : n ≤ 1048576) (hg : g < w.heap.size) (h : At w g ps) :
    Calls Tryz.prog 120 #[.slice (some ⟨g, 0, none⟩) n cap, .agg #[.int .i64 x, .int .i64 y]] w fun e w' => ∃ qs ok g' c', IsPut 20 4 ps (x, y) qs ok ∧
      e = .returned (.tuple #[.slice (some ⟨g', 0, none⟩) qs.length c', .bool ok]) ∧ Own 80 w' w.heap.size g' qs.length c' qs ∧ Below w.heap.size w w' := by
  obtain ⟨W0, hW0⟩ : ∃ W0, W0 = w.alloc (.cells #[.int .i64 x, .int .i64 y] 80) := ⟨_, rfl⟩
  have s0 : w.heap.size < W0.heap.size := by rw [hW0]; simp
  have b0 : Below w.heap.size w W0 := by rw [hW0]; exact (Below.refl _ _).alloc (Nat.le_refl _) _
  have d00 : W0.cell? ⟨w.heap.size, 0, none⟩ = some (.int .i64 x) := by rw [hW0]; simp
  have d01 : W0.cell? ⟨w.heap.size, 1, none⟩ = some (.int .i64 y) := by rw [hW0]; simp
  have A0 := hide (h.below b0 hg)
  have B0 := hide b0
  clear h b0
  go_enter Tryz.func120, Tryz.ntmps120
  go_wp2_with fail
  rw [← hW0]
  clear hW0
  go_region_with (first
    | (go_at_call 133
       refine (iChart _ g n cap).mono ?_
       rintro e w1 ⟨rfl, b1⟩
       have bw : Below W0.heap.size W0 w1 := (Below.refl W0.heap.size W0).drew.trans b1
       have s1 := bw.size
       have d10 := (bw.cell (p := ⟨w.heap.size, 0, none⟩) s0).trans d00
       have d11 := (bw.cell (p := ⟨w.heap.size, 1, none⟩) s0).trans d01
       have A1 := hide ((unhide A0).below bw (by omega))
       have B1 := hide (next (unhide B0) bw)
       clear b1 bw)
    | (go_at_call 151
       refine (iChartPut _ g n cap ps x y hl h20 (by omega) (unhide A1)).mono ?_
       rintro e w2 ⟨qs, ok, g2, k2, hp, rfl, o2, b2⟩
       have P2 := hide hp
       have O2 := hide (o2.rebase (base' := w.heap.size) (by have := o2.lt.1; omega))
       have B2 := hide (next (unhide B1) b2)
       clear hp o2 b2))
  all_goals
    (go_wp2
     go_ret2
     exact ⟨qs, ok, g2, k2, unhide P2, rfl, unhide O2, unhide B2⟩)
end Go.Proofs.YtlbdfaahcmlddaaGreat.AccountIPut
namespace Go.Proofs.YtlbdfaahcmlddaaGreat.IAccountAdd
open Go.ChangeShapes Go.WideShapes Go.ChangeAt Go.RowKit BMem Bks ILists BHelp Ans ICopied ICmdB IHave
open IBalsFit (one_more)
open ITrade (at_new)
open IBalsFit (all_one)
open Lots (Says says_of NoOk)
set_option maxRecDepth 100000 in
set_option maxHeartbeats 4000000 in
theorem iAdd (u : World) (z : Bx) (base g : Nat) (no kind : Int) (ok : Ok z.b) (V : Var u base g z) (O : Ow u (base + 4) z) (hg : g < base + 4) :
    Calls Tryz.prog 58 #[.pointer (some ⟨g, 0, none⟩), .agg #[.int .i64 no, .int .i64 kind]] u fun e u' => ∃ b' c, IsAcc z.b no kind b' c ∧ e = .returned (.int .i64 c) ∧ ((c = 0 ∧ ∃ y, y.b = b' ∧ Var u' base g y ∧ Ow u' (base + 4) y) ∨ (c ≠ 0 ∧ AnyBox u' base g)) ∧ u.grownBy u' (some g) := by
  obtain ⟨b0, h0⟩ := says_of (kindOf z.b.ac no ≠ 0)
  have H0 := hide h0
  have LI := hide ok.1
  have S0 := hide (DW.start V O (ok_small ok))
  have S1 := hide ((unhide S0).step (one_more u (.cells #[.int .i64 no, .int .i64 kind] 80)))
  have k0 : (u.alloc (.cells #[.int .i64 no, .int .i64 kind] 80)).cell? ⟨u.heap.size, 0, none⟩ = some (.int .i64 no) := by simp
  have k1 : (u.alloc (.cells #[.int .i64 no, .int .i64 kind] 80)).cell? ⟨u.heap.size, 1, none⟩ = some (.int .i64 kind) := by simp
  have z1 : u.heap.size < (u.alloc (.cells #[.int .i64 no, .int .i64 kind] 80)).heap.size := by simp
  clear h0 ok V O
  go_enter Tryz.func58, Tryz.ntmps58
  go_wp2_with fail
  generalize u.alloc (.cells #[.int .i64 no, .int .i64 kind] 80) = u1 at *
  have d0 := (unhide S1).v.c0
  have d1 := (unhide S1).v.c1
  have d2 := (unhide S1).v.c2
  have d3 := (unhide S1).v.c3
  have d4 := (unhide S1).v.c4
  have d5 := (unhide S1).v.c5
  go_region_held3 (fun w' => w'.cell? ⟨u.heap.size, 0, none⟩ = some (.int .i64 no) ∧ w'.cell? ⟨g, 0, none⟩ = some (.slice (some ⟨z.ga, 0, none⟩) z.b.ac.length z.ca) ∧ w'.cell? ⟨g, 1, none⟩ = some (.slice (some ⟨z.gi, 0, none⟩) z.b.ic.length z.ci) ∧ w'.cell? ⟨g, 2, none⟩ = some (.slice (some ⟨z.gb, 0, none⟩) z.b.bs.length z.cb) ∧ w'.cell? ⟨g, 3, none⟩ = some (.slice (some ⟨z.gl, 0, none⟩) z.b.ls.length z.cl) ∧ w'.cell? ⟨g, 4, none⟩ = some (.slice (some ⟨z.gt, 0, none⟩) z.b.ts.length z.ct) ∧ w'.cell? ⟨g, 5, none⟩ = some (.int .i64 z.b.lot)) (go_keep)
    ((go_at_call 101
      refine (iHaveAccounts _ z u1.heap.size 1 1 [no] b0 ((unhide S1).drew.step (one_more _ _)).r (unhide LI).1 rfl (by omega) (by simp) (at_new _ [no] _ rfl rfl) (all_one (unhide H0))).mono ?_
      rintro e w1 ⟨rfl, bb⟩
      have S2 := hide (((unhide S1).drew.step (one_more _ _)).step bb)
      have f0 : w1.cell? ⟨u.heap.size, 0, none⟩ = some (.int .i64 no) := (bb.cell (p := ⟨u.heap.size, 0, none⟩) (by simp; omega)).trans ((World.cell?_alloc_past _ _ _ z1).trans k0)
      have f1 : w1.cell? ⟨u.heap.size, 1, none⟩ = some (.int .i64 kind) := (bb.cell (p := ⟨u.heap.size, 1, none⟩) (by simp; omega)).trans ((World.cell?_alloc_past _ _ _ z1).trans k1)
      have zz : u.heap.size < w1.heap.size := by have := bb.size; simp at this; omega
      have e0 := (unhide S2).v.c0
      have e1 := (unhide S2).v.c1
      have e2 := (unhide S2).v.c2
      have e3 := (unhide S2).v.c3
      have e4 := (unhide S2).v.c4
      have e5 := (unhide S2).v.c5
      clear bb))
  clear d0 d1 d2 d3 d4 d5
  cases b0
  rotate_left
  · go_wp2
    go_ret
    exact ⟨z.b, 2, .inl ⟨(unhide H0).yes, rfl, rfl⟩, rfl, .inr ⟨by omega, Var.any (unhide S2).v⟩, (unhide S2).grown⟩
  have KZ := hide (show kindOf z.b.ac no = 0 from Decidable.byContradiction (unhide H0).no)
  have na := (unhide S2).r.na
  have fJ := (unhide S2).v.free 0
  go_wp2_with fail
  go_region_held3 (fun w' => w'.cell? ⟨u.heap.size, 0, none⟩ = some (.int .i64 no) ∧ w'.cell? ⟨u.heap.size, 1, none⟩ = some (.int .i64 kind) ∧ w'.cell? ⟨g, 0, none⟩ = some (.slice (some ⟨z.ga, 0, none⟩) z.b.ac.length z.ca)) (go_keep)
    ((go_at_call 120
      refine (AccountIPut.iPut _ z.ga _ z.ca z.b.ac no kind rfl na (unhide S2).drew.r.la (unhide S2).drew.r.ra).mono ?_
      rintro e w2 ⟨qs, ok, g2, k2, hp, rfl, o2, bb⟩
      have S3 := hide ((unhide S2).drew.step bb)
      have h0 : w2.cell? ⟨u.heap.size, 0, none⟩ = some (.int .i64 no) := (bb.cell (p := ⟨u.heap.size, 0, none⟩) zz).trans f0
      have h1 : w2.cell? ⟨u.heap.size, 1, none⟩ = some (.int .i64 kind) := (bb.cell (p := ⟨u.heap.size, 1, none⟩) zz).trans f1
      have hJ := (unhide S3).v.c0
      have IP := hide hp
      have O2 := hide o2
      have G2 := hide (show u.heap.size < g2 from Nat.lt_of_lt_of_le zz o2.lt.1)
      clear bb hp o2))
  cases ok
  · go_wp2
    go_ret
    exact ⟨z.b, 7, .inr ⟨unhide KZ, qs, false, unhide IP, .inl ⟨rfl, rfl, rfl⟩⟩, rfl, .inr ⟨by omega, Var.any (unhide S3).v⟩, (unhide S3).grown⟩
  · have gJ := (unhide S3).v.free 0
    go_wp2
    go_ret
    have LO := ow_lo (unhide S3).o
    have LT := Box.lt (unhide S2).v
    have LU := Box.lt (unhide S0).v
    refine ⟨{ z.b with ac := qs }, 0, .inr ⟨unhide KZ, qs, true, unhide IP, .inr ⟨rfl, rfl, rfl⟩⟩, rfl, .inl ⟨rfl, { z with ga := g2, ca := k2, b := { z.b with ac := qs } }, rfl, (Box.set0 (unhide S3).v _).1, ?_⟩, Pairs.grown_trans (unhide S3).grown (Box.set0 (unhide S3).v _).2⟩
    refine ow_set (show Ow w2 (base + 4) { z with ga := g2, ca := k2, b := { z.b with ac := qs } } from { (unhide S3).o with oa := (unhide O2).rebase ?_ }) ?_ 0 _
    · exact Nat.le_trans (Nat.le_of_lt (Nat.lt_of_le_of_lt (ow_lo (unhide S2).o).1 (ow_up (unhide S2).o).1)) (unhide O2).lt.1
    · have G := unhide G2
      unfold Lo at LO
      unfold Off
      simp
      omega
set_option maxRecDepth 100000 in
theorem iClosure (u : World) (z : Bx) (base g : Nat) (pn pk : Addr) (no kind : Int) (hn : u.cell? pn = some (.int .i64 no)) (hk : u.cell? pk = some (.int .i64 kind)) (ok : Ok z.b) (V : Var u base g z) (O : Ow u (base + 4) z) (hg : g < base + 4) :
    Calls Tryz.prog 57 #[.pointer (some ⟨g, 0, none⟩), .pointer (some pn), .pointer (some pk)] u (Does (fun b' t c => t = 0 ∧ IsAcc z.b no kind b' c) base g u) := by
  have V1 := hide V
  have O1 := hide O
  clear V O
  go_enter Tryz.func57, Tryz.ntmps57
  go_wp2_with fail
  refine (iAdd u z base g no kind ok (unhide V1) (unhide O1) hg).mono ?_
  rintro e u' ⟨b', c, hI, rfl, hz, gr⟩
  have HI := hide hI
  have HZ := hide hz
  have GR := hide gr
  clear hI hz gr
  go_wp2
  go_ret2
  exact ⟨b', 0, c, ⟨rfl, unhide HI⟩, rfl, unhide HZ, unhide GR⟩
end Go.Proofs.YtlbdfaahcmlddaaGreat.IAccountAdd
namespace Go.Proofs.YtlbdfaahcmlddaaGreat.IAccountTell
open Go.ChangeShapes Go.WideShapes Go.ChangeAt Go.RowKit BMem Bks ILists BHelp Ans ICopied ICmdB IHave
open IBalsFit (one_more all_one)
open ITrade (at_new)
open Lots (Says says_of NoOk)
theorem says_no {p : Prop} (h : ¬ p) : Says false p := ⟨fun e => Bool.noConfusion e, fun r => absurd r h⟩
theorem says_yes {p : Prop} (h : p) : Says true p := ⟨fun _ => h, fun _ => rfl⟩
theorem six_alloc {B : Nat} {a w : World} {g : Nat} (h : Below B a w) (hB : B ≤ w.heap.size) (hg : B ≤ g) (u0 u1 u2 u3 u4 u5 : Value) (o : Obj) : Below B a (((((((w.setCell ⟨g, 0, none⟩ u0).setCell ⟨g, 1, none⟩ u1).setCell ⟨g, 2, none⟩ u2).setCell ⟨g, 3, none⟩ u3).setCell ⟨g, 4, none⟩ u4).setCell ⟨g, 5, none⟩ u5).alloc o) :=
  (six h hg u0 u1 u2 u3 u4 u5).alloc (by simpa using hB) o
theorem ow_six_alloc {w : World} {base base' : Nat} {z : Bx} {g : Nat} (h : Ow w base z) (off : Off z g) (hb : base' ≤ base) (u0 u1 u2 u3 u4 u5 : Value) (o : Obj) : Ow (((((((w.setCell ⟨g, 0, none⟩ u0).setCell ⟨g, 1, none⟩ u1).setCell ⟨g, 2, none⟩ u2).setCell ⟨g, 3, none⟩ u3).setCell ⟨g, 4, none⟩ u4).setCell ⟨g, 5, none⟩ u5).alloc o) base' z :=
  (ow_alloc (ow_six h off u0 u1 u2 u3 u4 u5) o).rebase hb
theorem box_six_alloc {w : World} {base g : Nat} {v0 v1 v2 v3 v4 v5 : Value} (h : Box w base g v0 v1 v2 v3 v4 v5) (u0 u1 u2 u3 u4 u5 : Value) (o : Obj) : Box (((((((w.setCell ⟨g, 0, none⟩ u0).setCell ⟨g, 1, none⟩ u1).setCell ⟨g, 2, none⟩ u2).setCell ⟨g, 3, none⟩ u3).setCell ⟨g, 4, none⟩ u4).setCell ⟨g, 5, none⟩ u5).alloc o) base g u0 u1 u2 u3 u4 u5 := World.ownsRow.alloc (box_six h u0 u1 u2 u3 u4 u5).1 o
theorem to_wb {P : Program} {fn : Func} {R : Ending → World → Prop} {ex : Exit} {a : Act} {W : World} (Pr : World → Prop) (h : Pr W) (k : ∀ W, Pr W → bodyPost P fn R ex a W) : bodyPost P fn R ex a W := k W h
/-- The books that were handed in, the two numbers, and the answer's variable behind them. -/
structure TW (w W : World) (x : Bx) (no kind : Int) : Prop where
  r : Rd W x
  c : Cl W w.heap.size x
  n : W.cell? ⟨w.heap.size + 1, 0, none⟩ = some (.int .i64 no)
  k : W.cell? ⟨w.heap.size + 1 + 1, 0, none⟩ = some (.int .i64 kind)
  v : Box W w.heap.size (w.heap.size + 1 + 1 + 1) (.slice none 0 0) (.slice none 0 0) (.slice none 0 0) (.slice none 0 0) (.slice none 0 0) (.int .i64 0)
  b : Below w.heap.size w W
theorem TW.step {w W W' : World} {x : Bx} {no kind : Int} (h : TW w W x no kind) (k : Below W.heap.size W W') : TW w W' x no kind := by
  have l := h.v.lt
  exact ⟨h.r.below k, h.c.below k (by omega), (k.cell (p := ⟨w.heap.size + 1, 0, none⟩) (by simp; omega)).trans h.n, (k.cell (p := ⟨w.heap.size + 1 + 1, 0, none⟩) (by simp; omega)).trans h.k, h.v.below k (by omega), h.b.trans (k.mono h.b.size)⟩
theorem TW.start {w : World} {x : Bx} {no kind : Int} (h : Rd w x) : TW w ((((w.alloc (.cells #[.slice (some ⟨x.ga, 0, none⟩) x.b.ac.length x.ca, .slice (some ⟨x.gi, 0, none⟩) x.b.ic.length x.ci, .slice (some ⟨x.gb, 0, none⟩) x.b.bs.length x.cb, .slice (some ⟨x.gl, 0, none⟩) x.b.ls.length x.cl, .slice (some ⟨x.gt, 0, none⟩) x.b.ts.length x.ct, .int .i64 x.b.lot] 37)).alloc (.cells #[.int .i64 no] 3)).alloc (.cells #[.int .i64 kind] 3)).alloc (.cells #[.slice none 0 0, .slice none 0 0, .slice none 0 0, .slice none 0 0, .slice none 0 0, .int .i64 0] 37)) x no kind :=
  ⟨(((h.alloc _).alloc _).alloc _).alloc _, (((boxed w x 37).below (one_more _ _) (by simp)).below (one_more _ _) (by simp; omega)).below (one_more _ _) (by simp; omega), ((one_more _ _).cell (p := ⟨w.heap.size + 1, 0, none⟩) (by simp)).trans (((one_more _ _).cell (p := ⟨w.heap.size + 1, 0, none⟩) (by simp)).trans (cell_new _ _ _ (by simp))), ((one_more _ _).cell (p := ⟨w.heap.size + 1 + 1, 0, none⟩) (by simp)).trans (cell_new _ _ _ (by simp)), Box.made _ _ _ _ _ _ (by simp; omega) (by simp), ((((Below.refl w.heap.size w).alloc (Nat.le_refl _) _).alloc (by simp) _).alloc (by simp; omega) _).alloc (by simp; omega) _⟩
theorem is_same {b b' : Bk} {no kind c : Int} (h : IsAcc b no kind b' c) (hc : c ≠ 0) : IsAcc b no kind b c := by
  rcases h with ⟨h, rfl, rfl⟩ | ⟨h, qs, ok, hp, ⟨h1, rfl, rfl⟩ | ⟨h1, rfl, rfl⟩⟩
  · exact .inl ⟨h, rfl, rfl⟩
  · exact .inr ⟨h, qs, ok, hp, .inl ⟨h1, rfl, rfl⟩⟩
  · exact absurd rfl hc
set_option maxRecDepth 100000 in
set_option maxHeartbeats 4000000 in
theorem iTell (w : World) (x : Bx) (no kind : Int) (h : Rd w x) :
    Calls Tryz.prog 14 #[.agg #[.slice (some ⟨x.ga, 0, none⟩) x.b.ac.length x.ca, .slice (some ⟨x.gi, 0, none⟩) x.b.ic.length x.ci, .slice (some ⟨x.gb, 0, none⟩) x.b.bs.length x.cb, .slice (some ⟨x.gl, 0, none⟩) x.b.ls.length x.cl, .slice (some ⟨x.gt, 0, none⟩) x.b.ts.length x.ct, .int .i64 x.b.lot], .int .i64 no, .int .i64 kind] w (AnsB (Ok x.b ∧ NoOk no ∧ (1 ≤ kind ∧ kind ≤ 4)) (IsAcc x.b no kind) w) := by
  obtain ⟨b1, h1⟩ := says_of (NoOk no)
  have H1 := hide h1
  have S0 := hide (TW.start (no := no) (kind := kind) h)
  clear h1 h
  go_enter Tryz.func14, Tryz.ntmps14
  go_wp2_with fail
  have S1 := hide ((unhide S0).step (one_more _ (.cells #[.int .i64 no] 3)))
  refine (iNumbers _ (w.heap.size + 1 + 1 + 1 + 1) 1 1 [no] b1 rfl (by omega) (by simp) (at_new _ [no] _ (by simp) rfl) (all_one (unhide H1))).mono ?_
  rintro e w1 ⟨rfl, bb⟩
  have S2 := hide ((unhide S1).step bb)
  clear bb S1 S0
  obtain ⟨c0, c1, c2, c3, c4, c5⟩ := (unhide S2).c
  have cn := (unhide S2).n
  have ck := (unhide S2).k
  have hmf : ∀ (fn : Fn) (first cp : Array Value) (w : World), (Instr.makeFunc fn first cp).run Tryz.prog w = .ok (.func fn first cp) w := fun _ _ _ _ => rfl
  have HF := hide (show ∀ (told : Prop), Ok x.b → told → ∀ (u : World) (z : Bx), z.b = x.b → Var u w1.heap.size (w1.heap.size + 1) z → Ow u (w1.heap.size + 4) z → Below w1.heap.size w1 u → Calls Tryz.prog 57 (#[.pointer (some ⟨w1.heap.size + 1, 0, none⟩)] ++ #[.pointer (some ⟨w.heap.size + 1, 0, none⟩), .pointer (some ⟨w.heap.size + 1 + 1, 0, none⟩)]) u (Does (fun b' t c => t = 0 ∧ IsAcc x.b no kind b' c) w1.heap.size (w1.heap.size + 1) u) from by
    intro told ok _ u z hz V O bb
    have l := (unhide S2).v.lt
    have q := IAccountAdd.iClosure u z w1.heap.size (w1.heap.size + 1) ⟨w.heap.size + 1, 0, none⟩ ⟨w.heap.size + 1 + 1, 0, none⟩ no kind ((bb.cell (p := ⟨w.heap.size + 1, 0, none⟩) (by simp; omega)).trans cn) ((bb.cell (p := ⟨w.heap.size + 1 + 1, 0, none⟩) (by simp; omega)).trans ck) (by rw [hz]; exact ok) V O (by omega)
    rw [hz] at q
    exact q)
  have four : Hid (Says b1 (NoOk no)) ∧ ((b1 = false ∧ Hid (Says false (NoOk no ∧ 1 ≤ kind ∧ kind ≤ 4))) ∨ (b1 = true ∧ (decide (1 ≤ kind) = false ∧ Hid (Says false (NoOk no ∧ 1 ≤ kind ∧ kind ≤ 4)))) ∨ (b1 = true ∧ (decide (1 ≤ kind) = true ∧ (decide (kind ≤ 4) = false ∧ Hid (Says false (NoOk no ∧ 1 ≤ kind ∧ kind ≤ 4))))) ∨ (b1 = true ∧ (decide (1 ≤ kind) = true ∧ (decide (kind ≤ 4) = true ∧ Hid (Says true (NoOk no ∧ 1 ≤ kind ∧ kind ≤ 4)))))) := by
    refine ⟨H1, ?_⟩
    cases b1
    · exact .inl ⟨rfl, says_no (fun hh => (unhide H1).no hh.1)⟩
    · by_cases q1 : 1 ≤ kind
      · by_cases q2 : kind ≤ 4
        · exact .inr (.inr (.inr ⟨rfl, decide_eq_true q1, decide_eq_true q2, says_yes ⟨(unhide H1).yes, q1, q2⟩⟩))
        · exact .inr (.inr (.inl ⟨rfl, decide_eq_true q1, decide_eq_false q2, says_no (fun hh => q2 hh.2.2)⟩))
      · exact .inr (.inl ⟨rfl, decide_eq_false q1, says_no (fun hh => q1 hh.2.1)⟩)
  clear H1
  obtain ⟨H1, ⟨rfl, HT⟩ | ⟨rfl, q1, HT⟩ | ⟨rfl, q1, q2, HT⟩ | ⟨rfl, q1, q2, HT⟩⟩ := four
  all_goals
    (clear H1
     go_wp2_with fail
     refine (ICmd.iCmd _ x _ (NoOk no ∧ 1 ≤ kind ∧ kind ≤ 4) 57 _ (fun b' t c => t = 0 ∧ IsAcc x.b no kind b' c) (unhide S2).r (unhide HT) (fun _ _ => rfl) ((unhide HF) _)).mono ?_
     clear HF HT
     rintro e w3 (⟨N, rfl, bb⟩ | ⟨T, b', t, c, z, hP, hz, oz, bb⟩)
     · have S3 := hide ((unhide S2).step bb)
       have NN := hide (show ¬ (Ok x.b ∧ NoOk no ∧ (1 ≤ kind ∧ kind ≤ 4)) from fun hh => N ⟨hh.2, hh.1⟩)
       have l : w.heap.size + 1 + 1 + 1 < w1.heap.size := (unhide S2).v.lt.2
       have l3 : w.heap.size + 1 + 1 + 1 < w3.heap.size := (unhide S3).v.lt.2
       have l4 : w.heap.size + 1 + 1 + 1 ≠ w3.heap.size := by omega
       clear bb c0 c1 c2 c3 c4 c5 cn ck N
       have r0 := (unhide S3).v.c0
       have r1 := (unhide S3).v.c1
       have r2 := (unhide S3).v.c2
       have r3 := (unhide S3).v.c3
       have r4 := (unhide S3).v.c4
       have r5 := (unhide S3).v.c5
       have f0 := (unhide S3).v.free 0
       have f1 := (unhide S3).v.free 1
       have f2 := (unhide S3).v.free 2
       have f3 := (unhide S3).v.free 3
       have f4 := (unhide S3).v.free 4
       have f5 := (unhide S3).v.free 5
       go_wp2
       refine to_wb (fun W => Box W w.heap.size (w.heap.size + 1 + 1 + 1) (.slice none 0 0) (.slice none 0 0) (.slice none 0 0) (.slice none 0 0) (.slice none 0 0) (.int .i64 0) ∧ Below w.heap.size w W) ?_ ?_
       · exact ⟨box_six_alloc (unhide S3).v _ _ _ _ _ _ _, six_alloc (unhide S3).b (unhide S3).b.size (by omega) _ _ _ _ _ _ _⟩
       rintro W ⟨X, B⟩
       have g0 := X.c0
       have g1 := X.c1
       have g2 := X.c2
       have g3 := X.c3
       have g4 := X.c4
       have g5 := X.c5
       exact bodyPost_ret (v := .tuple #[.agg #[.slice none 0 0, .slice none 0 0, .slice none 0 0, .slice none 0 0, .slice none 0 0, .int .i64 0], .int .i64 1]) (by simp [results, Tryz.results14, go_sem, g0, g1, g2, g3, g4, g5]) rfl (.inl ⟨unhide NN, rfl, B⟩)
     · have S3 := hide ((unhide S2).step bb)
       have TT := hide (show Ok x.b ∧ NoOk no ∧ (1 ≤ kind ∧ kind ≤ 4) from ⟨T.2, T.1⟩)
       have l : w.heap.size + 1 + 1 + 1 < w1.heap.size := (unhide S2).v.lt.2
       have l3 : w.heap.size + 1 + 1 + 1 < w3.heap.size := (unhide S3).v.lt.2
       have l4 : w.heap.size + 1 + 1 + 1 ≠ w3.heap.size := by omega
       have OZ := hide oz
       have LZ := hide (ow_lo oz)
       have HP := hide hP
       clear bb c0 c1 c2 c3 c4 c5 cn ck T oz hP
       have r0 := (unhide S3).v.c0
       have r1 := (unhide S3).v.c1
       have r2 := (unhide S3).v.c2
       have r3 := (unhide S3).v.c3
       have r4 := (unhide S3).v.c4
       have r5 := (unhide S3).v.c5
       have f0 := (unhide S3).v.free 0
       have f1 := (unhide S3).v.free 1
       have f2 := (unhide S3).v.free 2
       have f3 := (unhide S3).v.free 3
       have f4 := (unhide S3).v.free 4
       have f5 := (unhide S3).v.free 5
       rcases hz with ⟨q, hb, rfl⟩ | ⟨q, hb, rfl⟩
       · have IS := hide (show IsAcc x.b no kind z.b c from by rw [hb]; exact (unhide HP).2)
         clear q hb HP
         go_wp2
         refine to_wb (fun W => Box W w.heap.size (w.heap.size + 1 + 1 + 1) (.slice (some ⟨z.ga, 0, none⟩) z.b.ac.length z.ca) (.slice (some ⟨z.gi, 0, none⟩) z.b.ic.length z.ci) (.slice (some ⟨z.gb, 0, none⟩) z.b.bs.length z.cb) (.slice (some ⟨z.gl, 0, none⟩) z.b.ls.length z.cl) (.slice (some ⟨z.gt, 0, none⟩) z.b.ts.length z.ct) (.int .i64 z.b.lot) ∧ Below w.heap.size w W ∧ Ow W w.heap.size z) ?_ ?_
         · exact ⟨box_six_alloc (unhide S3).v _ _ _ _ _ _ _, six_alloc (unhide S3).b (unhide S3).b.size (by omega) _ _ _ _ _ _ _, ow_six_alloc (unhide OZ) (off_lo (unhide LZ) l) (unhide S2).b.size _ _ _ _ _ _ _⟩
         rintro W ⟨X, B, OW⟩
         have g0 := X.c0
         have g1 := X.c1
         have g2 := X.c2
         have g3 := X.c3
         have g4 := X.c4
         have g5 := X.c5
         exact bodyPost_ret (v := .tuple #[.agg #[.slice (some ⟨z.ga, 0, none⟩) z.b.ac.length z.ca, .slice (some ⟨z.gi, 0, none⟩) z.b.ic.length z.ci, .slice (some ⟨z.gb, 0, none⟩) z.b.bs.length z.cb, .slice (some ⟨z.gl, 0, none⟩) z.b.ls.length z.cl, .slice (some ⟨z.gt, 0, none⟩) z.b.ts.length z.ct, .int .i64 z.b.lot], .int .i64 c]) (by simp [results, Tryz.results14, go_sem, g0, g1, g2, g3, g4, g5]) rfl (.inr ⟨unhide TT, z, c, unhide IS, rfl, OW, B⟩)
       · have IS := hide (show IsAcc x.b no kind z.b c from by rw [hb]; exact is_same (unhide HP).2 q)
         clear q hb HP
         go_wp2
         refine to_wb (fun W => Box W w.heap.size (w.heap.size + 1 + 1 + 1) (.slice (some ⟨z.ga, 0, none⟩) z.b.ac.length z.ca) (.slice (some ⟨z.gi, 0, none⟩) z.b.ic.length z.ci) (.slice (some ⟨z.gb, 0, none⟩) z.b.bs.length z.cb) (.slice (some ⟨z.gl, 0, none⟩) z.b.ls.length z.cl) (.slice (some ⟨z.gt, 0, none⟩) z.b.ts.length z.ct) (.int .i64 z.b.lot) ∧ Below w.heap.size w W ∧ Ow W w.heap.size z) ?_ ?_
         · exact ⟨box_six_alloc (unhide S3).v _ _ _ _ _ _ _, six_alloc (unhide S3).b (unhide S3).b.size (by omega) _ _ _ _ _ _ _, ow_six_alloc (unhide OZ) (off_lo (unhide LZ) l) (unhide S2).b.size _ _ _ _ _ _ _⟩
         rintro W ⟨X, B, OW⟩
         have g0 := X.c0
         have g1 := X.c1
         have g2 := X.c2
         have g3 := X.c3
         have g4 := X.c4
         have g5 := X.c5
         exact bodyPost_ret (v := .tuple #[.agg #[.slice (some ⟨z.ga, 0, none⟩) z.b.ac.length z.ca, .slice (some ⟨z.gi, 0, none⟩) z.b.ic.length z.ci, .slice (some ⟨z.gb, 0, none⟩) z.b.bs.length z.cb, .slice (some ⟨z.gl, 0, none⟩) z.b.ls.length z.cl, .slice (some ⟨z.gt, 0, none⟩) z.b.ts.length z.ct, .int .i64 z.b.lot], .int .i64 c]) (by simp [results, Tryz.results14, go_sem, g0, g1, g2, g3, g4, g5]) rfl (.inr ⟨unhide TT, z, c, unhide IS, rfl, OW, B⟩))
end Go.Proofs.YtlbdfaahcmlddaaGreat.IAccountTell
namespace Go.Proofs.YtlbdfaahcmlddaaGreat.InstrSPut
open Go.ChangeShapes Go.WideShapes Go.ChangeAt Go.RowKit Pairs Chart InstrSOk
open InstrHelp (info2)
/-- How many, and what, has been copied when k elements are done. -/
def many (c k : Nat) : Nat := if c < k then k + 1 else k
def done (ps : List (Int × Int)) (c : Nat) (p : Int × Int) (k : Nat) : List (Int × Int) := (ins ps c p).take (many c k)
theorem take_next (L : List (Int × Int)) (m : Nat) (p : Int × Int) (hm : m < L.length) (e : el L m = p) : L.take (m + 1) = L.take m ++ [p] := by
  rw [List.take_add_one, ← e]
  simp [el, List.getD, hm]
theorem done_ahead (ps : List (Int × Int)) (c : Nat) (p : Int × Int) (k : Nat) (hc : c ≤ ps.length) (hk : k < c) : done ps c p (k + 1) = done ps c p k ++ [el ps k] := by
  unfold done many
  rw [if_neg (by omega), if_neg (by omega)]
  exact take_next _ _ _ (by rw [ins_len _ _ _ hc]; omega) (by rw [ins_el _ _ _ hc, if_pos hk])
theorem done_at (ps : List (Int × Int)) (c : Nat) (p : Int × Int) (hc : c < ps.length) : done ps c p (c + 1) = done ps c p c ++ [p] ++ [el ps c] := by
  unfold done many
  rw [if_pos (by omega), if_neg (by omega)]
  rw [take_next (ins ps c p) (c + 1) (el ps c) (by rw [ins_len _ _ _ (by omega)]; omega) (by rw [ins_el _ _ _ (by omega), if_neg (by omega), if_neg (by omega)]; rfl)]
  rw [take_next (ins ps c p) c p (by rw [ins_len _ _ _ (by omega)]; omega) (by rw [ins_el _ _ _ (by omega), if_neg (by omega), if_pos rfl])]
theorem done_behind (ps : List (Int × Int)) (c : Nat) (p : Int × Int) (k : Nat) (hc : c ≤ ps.length) (h1 : c < k) (hk : k < ps.length) : done ps c p (k + 1) = done ps c p k ++ [el ps k] := by
  unfold done many
  rw [if_pos (by omega), if_pos (by omega)]
  exact take_next _ _ _ (by rw [ins_len _ _ _ hc]; omega) (by rw [ins_el _ _ _ hc, if_neg (by omega), if_neg (by omega)]; rfl)
theorem done_all (ps : List (Int × Int)) (c : Nat) (p : Int × Int) (hc : c < ps.length) : done ps c p ps.length = ins ps c p := by
  unfold done many
  rw [if_pos hc]
  exact List.take_of_length_le (by rw [ins_len _ _ _ (by omega)]; exact Nat.le_refl _)
theorem done_last (ps : List (Int × Int)) (p : Int × Int) : done ps ps.length p ps.length ++ [p] = ins ps ps.length p := by
  unfold done many ins
  rw [if_neg (by omega)]
  simp
theorem sameOld {w a b : World} (h : Below w.heap.size w a) (k : Below w.heap.size w b) {p : Addr} (hp : p.block < w.heap.size) : b.cell? p = a.cell? p := (k.cell (p := p) hp).trans (h.cell (p := p) hp).symm
set_option maxRecDepth 100000 in
set_option maxHeartbeats 4000000 in
theorem sPut (w : World) (g n cap : Nat) (ps : List (Int × Int)) (x y : Int) (hl : ps.length = n) (h20 : n ≤ 1048576) (hg : g < w.heap.size) (h : At w g ps) :
    Calls Tryz.prog 69 #[.slice (some ⟨g, 0, none⟩) n cap, .agg #[.int .i64 x, .int .i64 y]] w fun e w' => ∃ qs ok g' c', IsPut 8 2 ps (x, y) qs ok ∧
      e = .returned (.tuple #[.slice (some ⟨g', 0, none⟩) qs.length c', .bool ok]) ∧ Own 91 w' w.heap.size g' qs.length c' qs ∧ Below w.heap.size w w' := by
  obtain ⟨ok, OK⟩ := says_of 8 2 ps
  obtain ⟨i0, hi, hz0, hz1, hz2⟩ := info_parts info2
  have b0 : Below w.heap.size w (w.alloc (.cells #[.int .i64 x, .int .i64 y] 91)) := (Below.refl _ _).alloc (Nat.le_refl _) _
  have oA := lit1 91 w w.heap.size x y (Nat.le_refl _)
  have H0 := hide (h.below b0 hg)
  have HB0 := hide b0
  have s1 : (w.alloc (.cells #[.int .i64 x, .int .i64 y] 91)).heap.size = w.heap.size + 1 := World.size_alloc ..
  clear b0
  have H := hide h
  clear h
  cases ok
  · go_enter Tryz.func69, Tryz.ntmps69
    go_wp2_with fail
    refine (sOk _ _ _ _ ps false hl h20 (unhide H0) OK).mono ?_
    rintro e w2 ⟨rfl, nq, rfl⟩
    go_wp2
    go_ret2
    refine ⟨[], false, w.heap.size + 1, 0, .inl ⟨OK.no, rfl, rfl⟩, rfl, ?_, (below_drewN (unhide HB0) nq).alloc (by simp) _⟩
    have := lit0 91 ((w.alloc (.cells #[.int .i64 x, .int .i64 y] 91)).drewN nq) w.heap.size (by simp)
    simpa using this
  · obtain ⟨c, hc⟩ := place_is ps x
    go_enter Tryz.func69, Tryz.ntmps69
    go_wp2_with fail
    refine (sOk _ _ _ _ ps true hl h20 (unhide H0) OK).mono ?_
    rintro e w2 ⟨rfl, nq, rfl⟩
    have oA2 : Own 91 ((w.alloc (.cells #[.int .i64 x, .int .i64 y] 91)).drewN nq) w.heap.size w.heap.size 1 1 [(x, y)] := oA
    have oO : Own 91 (((w.alloc (.cells #[.int .i64 x, .int .i64 y] 91)).drewN nq).alloc (.cells #[] 91)) (w.heap.size + 1) (w.heap.size + 1) 0 0 [] := by
      have := lit0 91 ((w.alloc (.cells #[.int .i64 x, .int .i64 y] 91)).drewN nq) (w.heap.size + 1) (by simp)
      simpa using this
    have oA3 := oA2.alloc (.cells #[] 91)
    have HB1 := hide ((below_drewN (unhide HB0) nq).alloc (B := w.heap.size) (by simp) (.cells #[] 91))
    have n20 : n ≤ 8 := by have := OK.yes.1; omega
    have c0 : c ≤ n := by have := hc.1; omega
    clear oA oA2 H0 HB0 s1
    have PC := hide hc
    clear hc
    go_wp2
    generalize ((w.alloc (.cells #[.int .i64 x, .int .i64 y] 91)).drewN nq).alloc (.cells #[] 91) = wS at *
    go_loopw [6, 7, 8] (fun o put i wr => ∃ (k m gO cO : Nat) (ds : List (Int × Int)), k ≤ n ∧ i = .int .i64 k ∧ put = .bool (decide (c < k)) ∧ o = .slice (some ⟨gO, 0, none⟩) m cO ∧ Hid (ds = done ps c (x, y) k ∧ m = many c k) ∧
        m ≤ 21 ∧ Own 91 wr (w.heap.size + 1) gO m cO ds ∧ Own 91 wr w.heap.size w.heap.size 1 1 [(x, y)] ∧ Below w.heap.size w wr) (fun _ _ i _ => n - (intOf i).toNat)
    case atStart =>
      refine ⟨0, 0, _, _, [], by omega, rfl, ?_, rfl, hide ⟨?_, ?_⟩, by omega, oO, oA3, unhide HB1⟩
      · simp
      · simp [done, many]
      · simp [many]
    case round =>
      clear oO oA3 HB1
      obtain ⟨k, m, gO, cO, ds, hk, rfl, rfl, rfl, HD, m21, own, oA, hb⟩ := hrel
      by_cases t : k < n
      · obtain ⟨e1, e2⟩ := (unhide H).below hb hg k (by omega)
        obtain ⟨a1, a2⟩ := oA.at 0 (by simp)
        have HO := hide own
        have HA := hide oA
        have HB := hide hb
        have es := hb.size
        have gne := own.lt.1
        have als := oA.lt.2
        clear own oA hb
        rcases Nat.lt_trichotomy k c with l | l | l
        · have lt : (el ps k).1 < x := (unhide PC).2.1 k l
          have gd : decide (x ≤ (el ps k).1) = false := decide_eq_false (by omega)
          have nk : decide (c < k) = false := by simp; omega
          have nk2 : decide (c < k + 1) = false := by simp; omega
          have ED := hide (done_ahead ps c (x, y) k (by omega) l)
          have EM := hide (show many c (k + 1) = many c k + 1 by unfold many; rw [if_neg (by omega), if_neg (by omega)])
          have ED : Hid (done ps c (x, y) (k + 1) = done ps c (x, y) k ++ [((el ps k).1, (el ps k).2)]) := ED
          have mk : Hid (m ≤ 20) := hide (by have := (unhide HD).2; unfold many at this; rw [if_neg (by omega)] at this; omega)
          have m20 : m ≤ 20 := unhide mk
          generalize (el ps k).1 = p1 at *
          generalize (el ps k).2 = p2 at *
          rw [nk]
          go_wp2
          go_quiet (fail)
          generalize hw1 : wr.drewN nq = w1
          have o1 : Own 91 w1 (w.heap.size + 1) gO m cO ds := by rw [← hw1]; exact unhide HO
          have a1 : Own 91 w1 w.heap.size w.heap.size 1 1 [(x, y)] := by rw [← hw1]; exact unhide HA
          have b1 : Below w.heap.size w w1 := by rw [← hw1]; exact below_drewN (unhide HB) nq
          have f1 : w1.cell? ⟨g, k * 2, none⟩ = some (.int .i64 p1) := by rw [← hw1]; exact e1
          have f2 : w1.cell? ⟨g, k * 2 + 1, none⟩ = some (.int .i64 p2) := by rw [← hw1]; exact e2
          obtain ⟨d1, d2⟩ := a1.at 0 (by simp)
          have d1 : w1.cell? ⟨w.heap.size, 0, none⟩ = some (.int .i64 x) := d1
          have d2 : w1.cell? ⟨w.heap.size, 1, none⟩ = some (.int .i64 y) := d2
          have es1 := b1.size
          have as1 := a1.lt.2
          clear hw1 e1 e2 HO HA HB es
          go_wp2_with (at_builtin; refine wpList_append_own _ rfl (.tmp 36) (.tmp 41) 32 rfl (w.heap.size + 1) 91 i0 (.agg #[.int .i64 0, .int .i64 0]) 2 16 Tryz.underlying32 hi hz0 hz1 hz2 rfl (by decide) (.slice (some ⟨gO, 0, none⟩) m cO) m _ rfl (o1.alloc _) ⟨w1.heap.size, 0, none⟩ 1 1 [.int .i64 p1, .int .i64 p2] rfl rfl (lit1 _ w1 0 _ _ (Nat.zero_le _)).at.cells (fun u hu => flat_one u [(p1, p2)] hu) (by unfold maxLen; omega) (by omega) (by simp; omega) ?_)
          intro v2 w2 own2 (gr2 : World.grownBy _ w2 (some gO)) nil2
          obtain ⟨g2, c2, rfl, o2⟩ := own_of_row (n' := m + 1) (ps := ds ++ [(p1, p2)]) own2 (by omega) (by rw [flat_append]; rfl) (by first | exact nil2 | (rw [nil2]; simp))
          have a2 := (a1.alloc (.cells #[.int .i64 p1, .int .i64 p2] 91)).kept gr2 (by simp; omega)
          have b2 : Below w.heap.size w w2 := (b1.alloc es1 _).grown gr2 (by simp; omega) (by simp; omega)
          have es2 := b2.size
          have as2 := a2.lt.2
          have gn2 := o2.lt.1
          clear own2 gr2 nil2 o1 a1 b1 d1 d2 f1 f2
          go_wp2
          go_roundw
          case rel => exact ⟨k + 1, m + 1, g2, c2, _, by omega, by go_num, by rw [nk2], rfl, hide ⟨by rw [unhide ED, (unhide HD).1], by rw [unhide EM, (unhide HD).2]⟩, by omega, o2, a2, b2⟩
          case measure => simp [intOf]; omega
        · have ge : x ≤ (el ps k).1 := (by subst l; exact (unhide PC).2.2 (by omega))
          have gd : decide (x ≤ (el ps k).1) = true := decide_eq_true ge
          have nk : decide (c < k) = false := by simp; omega
          have nk2 : decide (c < k + 1) = true := by simp; omega
          have ED : Hid (done ps c (x, y) (k + 1) = done ps c (x, y) k ++ [(x, y)] ++ [((el ps k).1, (el ps k).2)]) := hide (by subst l; exact done_at ps k (x, y) (by omega))
          have EM := hide (show many c (k + 1) = many c k + 2 by unfold many; rw [if_pos (by omega), if_neg (by omega)])
          have mk : Hid (m + 1 ≤ 8) := hide (by have := (unhide HD).2; unfold many at this; rw [if_neg (by omega)] at this; omega)
          have mm : m + 1 ≤ 8 := unhide mk
          clear l
          generalize (el ps k).1 = p1 at *
          generalize (el ps k).2 = p2 at *
          rw [nk]
          go_wp2
          go_quiet (fail)
          generalize hw1 : wr.drewN nq = w1
          have o1 : Own 91 w1 (w.heap.size + 1) gO m cO ds := by rw [← hw1]; exact unhide HO
          have a1 : Own 91 w1 w.heap.size w.heap.size 1 1 [(x, y)] := by rw [← hw1]; exact unhide HA
          have b1 : Below w.heap.size w w1 := by rw [← hw1]; exact below_drewN (unhide HB) nq
          have f1 : w1.cell? ⟨g, k * 2, none⟩ = some (.int .i64 p1) := by rw [← hw1]; exact e1
          have f2 : w1.cell? ⟨g, k * 2 + 1, none⟩ = some (.int .i64 p2) := by rw [← hw1]; exact e2
          obtain ⟨d1, d2⟩ := a1.at 0 (by simp)
          have d1 : w1.cell? ⟨w.heap.size, 0, none⟩ = some (.int .i64 x) := d1
          have d2 : w1.cell? ⟨w.heap.size, 1, none⟩ = some (.int .i64 y) := d2
          have es1 := b1.size
          have as1 := a1.lt.2
          clear hw1 e1 e2 HO HA HB es
          go_wp2_with (at_builtin; refine wpList_append_own _ rfl (.tmp 32) (.tmp 34) 32 rfl (w.heap.size + 1) 91 i0 (.agg #[.int .i64 0, .int .i64 0]) 2 16 Tryz.underlying32 hi hz0 hz1 hz2 rfl (by decide) (.slice (some ⟨gO, 0, none⟩) m cO) m _ rfl (o1.alloc _) ⟨w1.heap.size, 0, none⟩ 1 1 [.int .i64 x, .int .i64 y] rfl rfl (lit1 _ w1 0 _ _ (Nat.zero_le _)).at.cells (fun u hu => flat_one u [(x, y)] hu) (by unfold maxLen; omega) (by omega) (by simp; omega) ?_)
          intro v2 w2 own2 (gr2 : World.grownBy _ w2 (some gO)) nil2
          obtain ⟨g2, c2, rfl, o2⟩ := own_of_row (n' := m + 1) (ps := ds ++ [(x, y)]) own2 (by omega) (by rw [flat_append]; rfl) (by first | exact nil2 | (rw [nil2]; simp))
          have a2 := (a1.alloc (.cells #[.int .i64 x, .int .i64 y] 91)).kept gr2 (by simp; omega)
          have b2 : Below w.heap.size w w2 := (b1.alloc es1 _).grown gr2 (by simp; omega) (by simp; omega)
          have es2 := b2.size
          have as2 := a2.lt.2
          have gn2 := o2.lt.1
          have h1 : w2.cell? ⟨g, k * 2, none⟩ = some (.int .i64 p1) := (sameOld b1 b2 (p := ⟨g, k * 2, none⟩) hg).trans f1
          have h2 : w2.cell? ⟨g, k * 2 + 1, none⟩ = some (.int .i64 p2) := (sameOld b1 b2 (p := ⟨g, k * 2 + 1, none⟩) hg).trans f2
          clear own2 gr2 nil2 o1 a1 b1 d1 d2 f1 f2
          go_wp2_with (at_builtin; refine wpList_append_own _ rfl (.tmp 36) (.tmp 41) 32 rfl (w.heap.size + 1) 91 i0 (.agg #[.int .i64 0, .int .i64 0]) 2 16 Tryz.underlying32 hi hz0 hz1 hz2 rfl (by decide) (.slice (some ⟨g2, 0, none⟩) (m + 1) c2) (m + 1) _ rfl (o2.alloc _) ⟨w2.heap.size, 0, none⟩ 1 1 [.int .i64 p1, .int .i64 p2] rfl rfl (lit1 _ w2 0 _ _ (Nat.zero_le _)).at.cells (fun u hu => flat_one u [(p1, p2)] hu) (by unfold maxLen; omega) (by omega) (by simp; omega) ?_)
          intro v3 w3 own3 (gr3 : World.grownBy _ w3 (some g2)) nil3
          obtain ⟨g3, c3, rfl, o3⟩ := own_of_row (n' := m + 2) (ps := ds ++ [(x, y)] ++ [(p1, p2)]) own3 (by omega) (flat_append (ds ++ [(x, y)]) [(p1, p2)]).symm (by first | exact nil3 | (rw [nil3]; simp))
          have a3 := (a2.alloc (.cells #[.int .i64 p1, .int .i64 p2] 91)).kept gr3 (by simp; omega)
          have b3 : Below w.heap.size w w3 := (b2.alloc es2 _).grown gr3 (by simp; omega) (by simp; omega)
          have es3 := b3.size
          have as3 := a3.lt.2
          have gn3 := o3.lt.1
          clear own3 gr3 nil3 o2 a2 b2 h1 h2
          go_wp2
          go_roundw
          case rel => exact ⟨k + 1, m + 2, g3, c3, _, by omega, by go_num, by rw [nk2], rfl, hide ⟨by rw [unhide ED, (unhide HD).1], by rw [unhide EM, (unhide HD).2]⟩, by omega, o3, a3, b3⟩
          case measure => simp [intOf]; omega
        · have nk : decide (c < k) = true := by simp; omega
          have nk2 : decide (c < k + 1) = true := by simp; omega
          have ED : Hid (done ps c (x, y) (k + 1) = done ps c (x, y) k ++ [((el ps k).1, (el ps k).2)]) := hide (done_behind ps c (x, y) k (by omega) l (by omega))
          have EM := hide (show many c (k + 1) = many c k + 1 by unfold many; rw [if_pos (by omega), if_pos (by omega)])
          have mk : Hid (m ≤ 8) := hide (by have := (unhide HD).2; unfold many at this; rw [if_pos (by omega)] at this; omega)
          have mm := unhide mk
          generalize (el ps k).1 = p1 at *
          generalize (el ps k).2 = p2 at *
          rw [nk]
          go_wp2
          go_quiet (fail)
          generalize hw1 : wr.drewN nq = w1
          have o1 : Own 91 w1 (w.heap.size + 1) gO m cO ds := by rw [← hw1]; exact unhide HO
          have a1 : Own 91 w1 w.heap.size w.heap.size 1 1 [(x, y)] := by rw [← hw1]; exact unhide HA
          have b1 : Below w.heap.size w w1 := by rw [← hw1]; exact below_drewN (unhide HB) nq
          have f1 : w1.cell? ⟨g, k * 2, none⟩ = some (.int .i64 p1) := by rw [← hw1]; exact e1
          have f2 : w1.cell? ⟨g, k * 2 + 1, none⟩ = some (.int .i64 p2) := by rw [← hw1]; exact e2
          obtain ⟨d1, d2⟩ := a1.at 0 (by simp)
          have d1 : w1.cell? ⟨w.heap.size, 0, none⟩ = some (.int .i64 x) := d1
          have d2 : w1.cell? ⟨w.heap.size, 1, none⟩ = some (.int .i64 y) := d2
          have es1 := b1.size
          have as1 := a1.lt.2
          clear hw1 e1 e2 HO HA HB es
          go_wp2_with (at_builtin; refine wpList_append_own _ rfl (.tmp 36) (.tmp 41) 32 rfl (w.heap.size + 1) 91 i0 (.agg #[.int .i64 0, .int .i64 0]) 2 16 Tryz.underlying32 hi hz0 hz1 hz2 rfl (by decide) (.slice (some ⟨gO, 0, none⟩) m cO) m _ rfl (o1.alloc _) ⟨w1.heap.size, 0, none⟩ 1 1 [.int .i64 p1, .int .i64 p2] rfl rfl (lit1 _ w1 0 _ _ (Nat.zero_le _)).at.cells (fun u hu => flat_one u [(p1, p2)] hu) (by unfold maxLen; omega) (by omega) (by simp; omega) ?_)
          intro v2 w2 own2 (gr2 : World.grownBy _ w2 (some gO)) nil2
          obtain ⟨g2, c2, rfl, o2⟩ := own_of_row (n' := m + 1) (ps := ds ++ [(p1, p2)]) own2 (by omega) (by rw [flat_append]; rfl) (by first | exact nil2 | (rw [nil2]; simp))
          have a2 := (a1.alloc (.cells #[.int .i64 p1, .int .i64 p2] 91)).kept gr2 (by simp; omega)
          have b2 : Below w.heap.size w w2 := (b1.alloc es1 _).grown gr2 (by simp; omega) (by simp; omega)
          have es2 := b2.size
          have as2 := a2.lt.2
          have gn2 := o2.lt.1
          clear own2 gr2 nil2 o1 a1 b1 d1 d2 f1 f2
          go_wp2
          go_roundw
          case rel => exact ⟨k + 1, m + 1, g2, c2, _, by omega, by go_num, by rw [nk2], rfl, hide ⟨by rw [unhide ED, (unhide HD).1], by rw [unhide EM, (unhide HD).2]⟩, by omega, o2, a2, b2⟩
          case measure => simp [intOf]; omega
      · obtain rfl : k = n := by omega
        by_cases cn : c < k
        · have nk : decide (c < k) = true := by simp; omega
          obtain ⟨rfl, rfl⟩ := unhide HD
          have own : Own 91 wr (w.heap.size + 1) gO (k + 1) cO (ins ps c (x, y)) := by
            have e : many c k = k + 1 := by unfold many; rw [if_pos cn]
            have e2 := done_all ps c (x, y) (by omega)
            rw [hl] at e2
            rw [e, e2] at own
            exact own
          have em : Hid (many c k = k + 1) := by unfold Hid many; rw [if_pos cn]
          rw [unhide em, nk]
          clear em nk HD
          obtain ⟨ok2, OK2⟩ := says_of 8 2 (ins ps c (x, y))
          have li : (ins ps c (x, y)).length = k + 1 := by rw [ins_len _ _ _ (by omega)]; omega
          have es := hb.size
          cases ok2
          · go_wp2_with fail
            refine (sOk _ gO (k + 1) cO (ins ps c (x, y)) false li (by omega) own.at OK2).mono ?_
            rintro e w7 ⟨rfl, nq2, rfl⟩
            have bq := below_drewN hb nq2
            generalize wr.drewN nq2 = w8 at *
            have es8 := bq.size
            clear own hb
            go_wp2_with (at_builtin; refine wpList_append_own _ rfl (.tmp 52) (.tmp 53) 32 rfl w.heap.size 91 i0 (.agg #[.int .i64 0, .int .i64 0]) 2 16 Tryz.underlying32 hi hz0 hz1 hz2 rfl (by decide) (.slice (some ⟨w8.heap.size, 0, none⟩) 0 0) 0 _ rfl (lit0 _ w8 w.heap.size bq.size) ⟨g, 0, none⟩ k cap (flat ps) rfl (by rw [flat_len, hl]) ((unhide H).below (bq.alloc (o := .cells #[] 91) bq.size) hg).cells (fun u hu => flat_one u ps hu) (by unfold maxLen; omega) (by omega) (by simp; omega) ?_)
            intro v9 w9 own9 (gr9 : World.grownBy _ w9 (some w8.heap.size)) nil9
            obtain ⟨g9, c9, rfl, o9⟩ := own_of_row (n' := k) (ps := ps) own9 (by omega) (by rw [flat_nil, List.nil_append]) (by first | exact nil9 | (rw [nil9]; simp))
            have b9 : Below w.heap.size w w9 := (bq.alloc bq.size _).grown gr9 (by simp; omega) (by simp; omega)
            clear own9 gr9 nil9
            go_wp2
            go_ret2
            exact ⟨ps, false, g9, c9, .inr ⟨OK.yes, c, unhide PC, .inl ⟨OK2.no, rfl, rfl⟩⟩, by rw [hl]; rfl, by rw [hl]; exact o9, b9⟩
          · go_wp2_with fail
            refine (sOk _ gO (k + 1) cO (ins ps c (x, y)) true li (by omega) own.at OK2).mono ?_
            rintro e w7 ⟨rfl, nq2, rfl⟩
            have bq := below_drewN hb nq2
            have oq : Own 91 (wr.drewN nq2) (w.heap.size + 1) gO (k + 1) cO (ins ps c (x, y)) := own
            generalize wr.drewN nq2 = w8 at *
            clear own hb
            go_wp2
            go_ret2
            exact ⟨ins ps c (x, y), true, gO, cO, .inr ⟨OK.yes, c, unhide PC, .inr ⟨OK2.yes, rfl, rfl⟩⟩, by rw [li]; rfl, by rw [li]; exact oq.rebase (by have := oq.lt.1; omega), bq⟩
        · obtain rfl : c = k := by omega
          have nk : decide (c < c) = false := by simp
          obtain ⟨rfl, rfl⟩ := unhide HD
          have em : Hid (many c c = c) := by unfold Hid many; rw [if_neg (by omega)]
          rw [unhide em] at own
          rw [unhide em, nk]
          obtain ⟨d1, d2⟩ := oA.at 0 (by simp)
          have d1 : wr.cell? ⟨w.heap.size, 0, none⟩ = some (.int .i64 x) := d1
          have d2 : wr.cell? ⟨w.heap.size, 1, none⟩ = some (.int .i64 y) := d2
          have es := hb.size
          have asw := oA.lt.2
          have gne := own.lt.1
          clear em nk HD m21
          go_wp2_with (at_builtin; refine wpList_append_own _ rfl (.tmp 45) (.tmp 47) 32 rfl (w.heap.size + 1) 91 i0 (.agg #[.int .i64 0, .int .i64 0]) 2 16 Tryz.underlying32 hi hz0 hz1 hz2 rfl (by decide) (.slice (some ⟨gO, 0, none⟩) c cO) c _ rfl (own.alloc _) ⟨wr.heap.size, 0, none⟩ 1 1 [.int .i64 x, .int .i64 y] rfl rfl (lit1 _ wr 0 _ _ (Nat.zero_le _)).at.cells (fun u hu => flat_one u [(x, y)] hu) (by unfold maxLen; omega) (by omega) (by simp; omega) ?_)
          intro v2 w2 own2 (gr2 : World.grownBy _ w2 (some gO)) nil2
          obtain ⟨g2, c2, rfl, o2⟩ := own_of_row (n' := c + 1) (ps := ins ps c (x, y)) own2 (by omega) (by have := done_last ps (x, y); rw [hl] at this; rw [← this, flat_append]; rfl) (by first | exact nil2 | (rw [nil2]; simp))
          have b2 : Below w.heap.size w w2 := (hb.alloc es _).grown gr2 (by simp; omega) (by simp; omega)
          clear own2 gr2 nil2 own oA hb d1 d2 es
          obtain ⟨ok2, OK2⟩ := says_of 8 2 (ins ps c (x, y))
          have li : (ins ps c (x, y)).length = c + 1 := by rw [ins_len _ _ _ (by omega)]; omega
          have es := b2.size
          cases ok2
          · go_wp2_with fail
            refine (sOk _ g2 (c + 1) c2 (ins ps c (x, y)) false li (by omega) o2.at OK2).mono ?_
            rintro e w7 ⟨rfl, nq2, rfl⟩
            have bq := below_drewN b2 nq2
            generalize w2.drewN nq2 = w8 at *
            have es8 := bq.size
            clear o2 b2
            go_wp2_with (at_builtin; refine wpList_append_own _ rfl (.tmp 52) (.tmp 53) 32 rfl w.heap.size 91 i0 (.agg #[.int .i64 0, .int .i64 0]) 2 16 Tryz.underlying32 hi hz0 hz1 hz2 rfl (by decide) (.slice (some ⟨w8.heap.size, 0, none⟩) 0 0) 0 _ rfl (lit0 _ w8 w.heap.size bq.size) ⟨g, 0, none⟩ c cap (flat ps) rfl (by rw [flat_len, hl]) ((unhide H).below (bq.alloc (o := .cells #[] 91) bq.size) hg).cells (fun u hu => flat_one u ps hu) (by unfold maxLen; omega) (by omega) (by simp; omega) ?_)
            intro v9 w9 own9 (gr9 : World.grownBy _ w9 (some w8.heap.size)) nil9
            obtain ⟨g9, c9, rfl, o9⟩ := own_of_row (n' := c) (ps := ps) own9 (by omega) (by rw [flat_nil, List.nil_append]) (by first | exact nil9 | (rw [nil9]; simp))
            have b9 : Below w.heap.size w w9 := (bq.alloc bq.size _).grown gr9 (by simp; omega) (by simp; omega)
            clear own9 gr9 nil9
            go_wp2
            go_ret2
            exact ⟨ps, false, g9, c9, .inr ⟨OK.yes, c, unhide PC, .inl ⟨OK2.no, rfl, rfl⟩⟩, by rw [hl]; rfl, by rw [hl]; exact o9, b9⟩
          · go_wp2_with fail
            refine (sOk _ g2 (c + 1) c2 (ins ps c (x, y)) true li (by omega) o2.at OK2).mono ?_
            rintro e w7 ⟨rfl, nq2, rfl⟩
            have bq := below_drewN b2 nq2
            have oq : Own 91 (w2.drewN nq2) (w.heap.size + 1) g2 (c + 1) c2 (ins ps c (x, y)) := o2
            generalize w2.drewN nq2 = w8 at *
            clear o2 b2
            go_wp2
            go_ret2
            exact ⟨ins ps c (x, y), true, g2, c2, .inr ⟨OK.yes, c, unhide PC, .inr ⟨OK2.yes, rfl, rfl⟩⟩, by rw [li]; rfl, by rw [li]; exact oq.rebase (by have := oq.lt.1; omega), bq⟩
end Go.Proofs.YtlbdfaahcmlddaaGreat.InstrSPut
namespace Go.Proofs.YtlbdfaahcmlddaaGreat.SInstrTell
open Go.ChangeShapes Go.WideShapes Go.ChangeAt Go.RowKit BMem Bks ILists BHelp Ans
open IBalsFit (one_more)
open Lots (Says says_of NoOk)
set_option maxRecDepth 100000 in
set_option maxHeartbeats 4000000 in
theorem sTell (w : World) (x : Bx) (no kind : Int) (h : Rd w x) :
    Calls Tryz.prog 17 #[.agg #[.slice (some ⟨x.ga, 0, none⟩) x.b.ac.length x.ca, .slice (some ⟨x.gi, 0, none⟩) x.b.ic.length x.ci, .slice (some ⟨x.gb, 0, none⟩) x.b.bs.length x.cb, .slice (some ⟨x.gl, 0, none⟩) x.b.ls.length x.cl, .slice (some ⟨x.gt, 0, none⟩) x.b.ts.length x.ct, .int .i64 x.b.lot], .int .i64 no, .int .i64 kind] w (AnsB (Ok x.b ∧ NoOk no ∧ (1 ≤ kind ∧ kind ≤ 2)) (IsIns x.b no kind) w) := by
  obtain ⟨b0, h0⟩ := says_of (Ok x.b)
  obtain ⟨b1, h1⟩ := says_of (NoOk no)
  obtain ⟨b2, h2⟩ := says_of (1 ≤ kind ∧ kind ≤ 2)
  have H0 := hide h0
  have H1 := hide h1
  have H2 := hide h2
  have S0 := hide (SR.start h)
  clear h0 h1 h2 h
  go_enter Tryz.func17, Tryz.ntmps17
  go_wp2_with fail
  refine (SBooksOk.sBooksOk _ x b0 (unhide S0).r (unhide H0)).mono ?_
  rintro e w1 ⟨rfl, bb⟩
  have S1 := hide ((unhide S0).step bb)
  clear bb
  obtain ⟨c0, c1, c2, c3, c4, c5⟩ := (unhide S1).c
  have r0 := (unhide S1).v.c0
  have r1 := (unhide S1).v.c1
  have r2 := (unhide S1).v.c2
  have r3 := (unhide S1).v.c3
  have r4 := (unhide S1).v.c4
  have r5 := (unhide S1).v.c5
  have f0 := (unhide S1).v.free 0
  have f1 := (unhide S1).v.free 1
  have f2 := (unhide S1).v.free 2
  have f3 := (unhide S1).v.free 3
  have f4 := (unhide S1).v.free 4
  have f5 := (unhide S1).v.free 5
  have B1 := hide (unhide S1).b
  cases b0
  · have N := hide (show ¬ (Ok x.b ∧ NoOk no ∧ (1 ≤ kind ∧ kind ≤ 2)) from fun hh => (unhide H0).no hh.1)
    go_wp2
    refine bodyPost_ret (v := .tuple #[.agg #[.slice none 0 0, .slice none 0 0, .slice none 0 0, .slice none 0 0, .slice none 0 0, .int .i64 0], .int .i64 1]) (by simp [results, Tryz.results17, go_sem, r0, r1, r2, r3, r4, r5]) rfl (.inl ⟨unhide N, rfl, ?_⟩)
    exact six (unhide B1) (by omega) _ _ _ _ _ _
  go_wp2_with fail
  refine (SOk5.sNo no b1 _ (unhide H1)).mono ?_
  rintro e w1' ⟨rfl, rfl⟩
  cases b1
  · have N := hide (show ¬ (Ok x.b ∧ NoOk no ∧ (1 ≤ kind ∧ kind ≤ 2)) from fun hh => (unhide H1).no hh.2.1)
    go_wp2
    refine bodyPost_ret (v := .tuple #[.agg #[.slice none 0 0, .slice none 0 0, .slice none 0 0, .slice none 0 0, .slice none 0 0, .int .i64 0], .int .i64 1]) (by simp [results, Tryz.results17, go_sem, r0, r1, r2, r3, r4, r5]) rfl (.inl ⟨unhide N, rfl, ?_⟩)
    exact six (unhide B1) (by omega) _ _ _ _ _ _
  go_wp2_with fail
  refine (SOk5.sIn kind 1 2 b2 _ (unhide H2)).mono ?_
  rintro e w1'' ⟨rfl, rfl⟩
  cases b2
  · have N := hide (show ¬ (Ok x.b ∧ NoOk no ∧ (1 ≤ kind ∧ kind ≤ 2)) from fun hh => (unhide H2).no hh.2.2)
    go_wp2
    refine bodyPost_ret (v := .tuple #[.agg #[.slice none 0 0, .slice none 0 0, .slice none 0 0, .slice none 0 0, .slice none 0 0, .int .i64 0], .int .i64 1]) (by simp [results, Tryz.results17, go_sem, r0, r1, r2, r3, r4, r5]) rfl (.inl ⟨unhide N, rfl, ?_⟩)
    exact six (unhide B1) (by omega) _ _ _ _ _ _
  have TOLD := hide (show Ok x.b ∧ NoOk no ∧ (1 ≤ kind ∧ kind ≤ 2) from ⟨(unhide H0).yes, (unhide H1).yes, (unhide H2).yes⟩)
  have LI := hide (unhide H0).yes.1
  go_wp2_with fail
  refine (SCopy.sCopy _ x (unhide S1).r).mono ?_
  rintro e w3 ⟨z, hz, rfl, oz, bb⟩
  have zb : w1''.heap.size ≤ w3.heap.size := bb.size
  have S3 := hide (((unhide S1).step bb).step (one_more w3 (.cells #[.slice (some ⟨z.ga, 0, none⟩) z.b.ac.length z.ca, .slice (some ⟨z.gi, 0, none⟩) z.b.ic.length z.ci, .slice (some ⟨z.gb, 0, none⟩) z.b.bs.length z.cb, .slice (some ⟨z.gl, 0, none⟩) z.b.ls.length z.cl, .slice (some ⟨z.gt, 0, none⟩) z.b.ts.length z.ct, .int .i64 z.b.lot] 37)))
  have UZ := hide (ow_up oz)
  have LZ := hide (ow_lo oz)
  have OZ := hide (ow_alloc oz (.cells #[.slice (some ⟨z.ga, 0, none⟩) z.b.ac.length z.ca, .slice (some ⟨z.gi, 0, none⟩) z.b.ic.length z.ci, .slice (some ⟨z.gb, 0, none⟩) z.b.bs.length z.cb, .slice (some ⟨z.gl, 0, none⟩) z.b.ls.length z.cl, .slice (some ⟨z.gt, 0, none⟩) z.b.ts.length z.ct, .int .i64 z.b.lot] 37))
  have VZ := hide (Box.made (w := w3) (base := w.heap.size) (.slice (some ⟨z.ga, 0, none⟩) z.b.ac.length z.ca) (.slice (some ⟨z.gi, 0, none⟩) z.b.ic.length z.ci) (.slice (some ⟨z.gb, 0, none⟩) z.b.bs.length z.cb) (.slice (some ⟨z.gl, 0, none⟩) z.b.ls.length z.cl) (.slice (some ⟨z.gt, 0, none⟩) z.b.ts.length z.ct) (.int .i64 z.b.lot) (Nat.le_trans (unhide B1).size zb) rfl)
  have rl := (unhide S1).v.lt
  have HZ := hide hz
  clear bb oz hz c0 c1 c2 c3 c4 c5 r0 r1 r2 r3 r4 r5 f0 f1 f2 f3 f4 f5
  obtain ⟨c0, c1, c2, c3, c4, c5⟩ := (unhide S3).c
  obtain ⟨K, hK⟩ : ∃ K, Hid (kindOf x.b.ic no = K) := ⟨_, rfl⟩
  go_wp2_with fail
  refine (SBals.sKindI _ x no K (unhide S3).r (unhide LI).2.1 (unhide hK)).mono ?_
  rintro e w4 ⟨rfl, bb⟩
  have S4 := hide ((unhide S3).step bb)
  have OZ4 := hide ((unhide OZ).below bb (Nat.le_refl _))
  have z3 : w3.heap.size < (w3.alloc (.cells #[.slice (some ⟨z.ga, 0, none⟩) z.b.ac.length z.ca, .slice (some ⟨z.gi, 0, none⟩) z.b.ic.length z.ci, .slice (some ⟨z.gb, 0, none⟩) z.b.bs.length z.cb, .slice (some ⟨z.gl, 0, none⟩) z.b.ls.length z.cl, .slice (some ⟨z.gt, 0, none⟩) z.b.ts.length z.ct, .int .i64 z.b.lot] 37)).heap.size := by simp
  have VZ4 := hide ((unhide VZ).below bb z3)
  have z4 : w3.heap.size < w4.heap.size := Nat.lt_of_lt_of_le z3 bb.size
  clear bb c0 c1 c2 c3 c4 c5 z3
  obtain ⟨c0, c1, c2, c3, c4, c5⟩ := (unhide S4).c
  have d0 := (unhide VZ4).c0
  have d1 := (unhide VZ4).c1
  have d2 := (unhide VZ4).c2
  have d3 := (unhide VZ4).c3
  have d4 := (unhide VZ4).c4
  have d5 := (unhide VZ4).c5
  have r0 := (unhide S4).v.c0
  have r1 := (unhide S4).v.c1
  have r2 := (unhide S4).v.c2
  have r3 := (unhide S4).v.c3
  have r4 := (unhide S4).v.c4
  have r5 := (unhide S4).v.c5
  have f0 := (unhide S4).v.free 0
  have f1 := (unhide S4).v.free 1
  have f2 := (unhide S4).v.free 2
  have f3 := (unhide S4).v.free 3
  have f4 := (unhide S4).v.free 4
  have f5 := (unhide S4).v.free 5
  have B4 := hide (unhide S4).b
  have OFR := off_lo (unhide LZ) (g := w.heap.size + 1) (by omega)
  have KIN := hide (kind_in (unhide LI).2.1 no)
  by_cases q : K > 0
  · have IS := hide (show IsIns x.b no kind z.b 2 from .inl ⟨by have := unhide hK; omega, unhide HZ, rfl⟩)
    go_wp2
    refine bodyPost_ret (v := .tuple #[.agg #[.slice (some ⟨z.ga, 0, none⟩) z.b.ac.length z.ca, .slice (some ⟨z.gi, 0, none⟩) z.b.ic.length z.ci, .slice (some ⟨z.gb, 0, none⟩) z.b.bs.length z.cb, .slice (some ⟨z.gl, 0, none⟩) z.b.ls.length z.cl, .slice (some ⟨z.gt, 0, none⟩) z.b.ts.length z.ct, .int .i64 z.b.lot], .int .i64 2]) (by simp [results, Tryz.results17, go_sem, r0, r1, r2, r3, r4, r5]) rfl (.inr ⟨unhide TOLD, z, 2, unhide IS, rfl, ?_, ?_⟩)
    · refine Ow.rebase (base := w1''.heap.size) ?_ (unhide B1).size
      exact ow_six (unhide OZ4) OFR _ _ _ _ _ _
    · exact six (unhide B4) (by omega) _ _ _ _ _ _
  have hq : decide (K > 0) = false := decide_eq_false q
  have KZ := hide (show kindOf x.b.ic no = 0 from by have := unhide hK; have := unhide KIN; omega)
  clear q
  have na := (unhide S4).r.ni
  go_wp2_with fail
  refine (InstrSPut.sPut _ x.gi _ x.ci x.b.ic no kind rfl na (unhide S4).r.li (unhide S4).r.ri).mono ?_
  rintro e w5 ⟨qs, ok, g5, k5, hp, rfl, o5, bb⟩
  have S5 := hide ((unhide S4).step bb)
  have OZ5 := hide ((unhide OZ4).below bb (Nat.le_refl _))
  have VZ5 := hide ((unhide VZ4).below bb z4)
  have IP := hide hp
  have O5 := hide o5
  have g5l := o5.lt
  clear bb hp o5 c0 c1 c2 c3 c4 c5 d0 d1 d2 d3 d4 d5 r0 r1 r2 r3 r4 r5 f0 f1 f2 f3 f4 f5
  have d0 := (unhide VZ5).c0
  have d1 := (unhide VZ5).c1
  have d2 := (unhide VZ5).c2
  have d3 := (unhide VZ5).c3
  have d4 := (unhide VZ5).c4
  have d5 := (unhide VZ5).c5
  have e1 := (unhide VZ5).free 1
  have r0 := (unhide S5).v.c0
  have r1 := (unhide S5).v.c1
  have r2 := (unhide S5).v.c2
  have r3 := (unhide S5).v.c3
  have r4 := (unhide S5).v.c4
  have r5 := (unhide S5).v.c5
  have f0 := (unhide S5).v.free 0
  have f1 := (unhide S5).v.free 1
  have f2 := (unhide S5).v.free 2
  have f3 := (unhide S5).v.free 3
  have f4 := (unhide S5).v.free 4
  have f5 := (unhide S5).v.free 5
  have B5 := hide (unhide S5).b
  cases ok
  · have IS := hide (show IsIns x.b no kind z.b 7 from .inr ⟨unhide KZ, qs, false, unhide IP, .inl ⟨rfl, unhide HZ, rfl⟩⟩)
    go_wp2
    refine bodyPost_ret (v := .tuple #[.agg #[.slice (some ⟨z.ga, 0, none⟩) z.b.ac.length z.ca, .slice (some ⟨z.gi, 0, none⟩) z.b.ic.length z.ci, .slice (some ⟨z.gb, 0, none⟩) z.b.bs.length z.cb, .slice (some ⟨z.gl, 0, none⟩) z.b.ls.length z.cl, .slice (some ⟨z.gt, 0, none⟩) z.b.ts.length z.ct, .int .i64 z.b.lot], .int .i64 7]) (by simp [results, Tryz.results17, go_sem, r0, r1, r2, r3, r4, r5]) rfl (.inr ⟨unhide TOLD, z, 7, unhide IS, rfl, ?_, ?_⟩)
    · refine Ow.rebase (base := w1''.heap.size) ?_ (unhide B1).size
      exact ow_six (unhide OZ5) OFR _ _ _ _ _ _
    · exact six (unhide B5) (by omega) _ _ _ _ _ _
  · obtain ⟨y, hy⟩ : ∃ y : Bx, y = { z with gi := g5, ci := k5, b := { z.b with ic := qs } } := ⟨_, rfl⟩
    have IS := hide (show IsIns x.b no kind { z.b with ic := qs } 0 from .inr ⟨unhide KZ, qs, true, unhide IP, .inr ⟨rfl, by rw [unhide HZ], rfl⟩⟩)
    have OY := hide (show Ow w5 w1''.heap.size { z with gi := g5, ci := k5, b := { z.b with ic := qs } } from { unhide OZ5 with oi := (unhide O5).rebase (by omega) })
    have UPZ := unhide UZ
    have OFO : Off { z with gi := g5, ci := k5, b := { z.b with ic := qs } } w3.heap.size := by
      unfold Up at UPZ
      unfold Off
      simp
      omega
    have OFY : Off { z with gi := g5, ci := k5, b := { z.b with ic := qs } } (w.heap.size + 1) := by
      unfold Off at OFR ⊢
      simp
      omega
    have zz : w.heap.size ≤ w3.heap.size := Nat.le_trans (unhide B1).size zb
    have rz : w.heap.size + 1 ≠ w3.heap.size := by omega
    clear hy y UPZ
    go_wp2
    refine bodyPost_ret (v := .tuple #[.agg #[.slice (some ⟨z.ga, 0, none⟩) z.b.ac.length z.ca, .slice (some ⟨g5, 0, none⟩) qs.length k5, .slice (some ⟨z.gb, 0, none⟩) z.b.bs.length z.cb, .slice (some ⟨z.gl, 0, none⟩) z.b.ls.length z.cl, .slice (some ⟨z.gt, 0, none⟩) z.b.ts.length z.ct, .int .i64 z.b.lot], .int .i64 0]) (by simp [results, Tryz.results17, go_sem, r0, r1, r2, r3, r4, r5]) rfl (.inr ⟨unhide TOLD, { z with gi := g5, ci := k5, b := { z.b with ic := qs } }, 0, unhide IS, rfl, ?_, ?_⟩)
    · refine Ow.rebase (base := w1''.heap.size) ?_ (unhide B1).size
      exact ow_six (ow_set (unhide OY) OFO 1 _) OFY _ _ _ _ _ _
    · exact six ((unhide B5).setCell (p := ⟨w3.heap.size, 1, none⟩) zz _) (by omega) _ _ _ _ _ _
end Go.Proofs.YtlbdfaahcmlddaaGreat.SInstrTell
namespace Go.Proofs.YtlbdfaahcmlddaaGreat.InstrIInsert
open Go.ChangeShapes Go.WideShapes Go.ChangeAt Go.RowKit Pairs Chart Stores
open InstrHelp (info2)
/-- The cells of a list from place c on. -/
theorem tail_cells {e : TypeId} {w : World} {B g n cap : Nat} {ps : List (Int × Int)} (h : Own e w B g n cap ps) (c : Nat) (hc : c ≤ n) : ∀ (j : Nat) (v : Value), (flat (ps.drop c))[j]? = some v → w.cell? ((⟨g, c * 2, none⟩ : Addr).add j) = some v := by
  intro j v hj
  have hl := h.len
  have hX : flat ps = flat (ps.take c) ++ flat (ps.drop c) := by rw [← flat_append, List.take_append_drop]
  have l1 : (flat (ps.take c)).length = c * 2 := by rw [flat_len]; simp; omega
  have e : (flat ps)[c * 2 + j]? = some v := by rw [hX, List.getElem?_append_right (by omega), l1, show c * 2 + j - c * 2 = j by omega]; exact hj
  have := h.at.cells (c * 2 + j) v e
  rw [Addr.add_lit] at this
  rw [Addr.add_lit]
  simpa using this
set_option maxRecDepth 100000 in
theorem iCopied (w : World) (g n cap : Nat) (ps : List (Int × Int)) (hl : ps.length = n) (h20 : n ≤ 1048576) (hg : g < w.heap.size) (h : At w g ps) :
    Calls Tryz.prog 176 #[.agg #[.slice (some ⟨g, 0, none⟩) n cap, .int .i64 8, .int .i64 2]] w fun e w' => ∃ g' c', e = .returned (.slice (some ⟨g', 0, none⟩) n c') ∧ Own 91 w' w.heap.size g' n c' ps ∧ Below w.heap.size w w' := by
  obtain ⟨i0, hi, hz0, hz1, hz2⟩ := info_parts info2
  have b0 : Below w.heap.size w (w.alloc (.cells #[.slice (some ⟨g, 0, none⟩) n cap, .int .i64 8, .int .i64 2] 156)) := (Below.refl _ _).alloc (Nat.le_refl _) _
  have H := hide (h.below b0 hg)
  have HB := hide b0
  clear b0
  have oL : Own 91 ((w.alloc (.cells #[.slice (some ⟨g, 0, none⟩) n cap, .int .i64 8, .int .i64 2] 156)).alloc (.cells #[] 91)) w.heap.size (w.heap.size + 1) 0 0 [] := by
    have := lit0 91 (w.alloc (.cells #[.slice (some ⟨g, 0, none⟩) n cap, .int .i64 8, .int .i64 2] 156)) w.heap.size (by simp)
    simpa using this
  have b1 := (unhide HB).alloc (B := w.heap.size) (by simp) (.cells #[] 91)
  have AL := h.below b1 hg
  clear h
  go_enter Tryz.func176, Tryz.ntmps176
  go_wp2_with (at_builtin; refine wpList_append_own _ rfl (.tmp 3) (.tmp 5) 32 rfl w.heap.size 91 i0 (.agg #[.int .i64 0, .int .i64 0]) 2 16 Tryz.underlying32 hi hz0 hz1 hz2 rfl (by decide) (.slice (some ⟨w.heap.size + 1, 0, none⟩) 0 0) 0 _ rfl oL ⟨g, 0, none⟩ n cap (flat ps) rfl (by rw [flat_len, hl]) AL.cells (fun u hu => flat_one u ps hu) (by unfold maxLen; omega) (by omega) (by simp; omega) ?_)
  intro v2 w2 own2 (gr2 : World.grownBy _ w2 (some (w.heap.size + 1))) nil2
  obtain ⟨g2, c2, rfl, o2⟩ := own_of_row (n' := n) (ps := ps) own2 (by omega) (by rw [flat_nil, List.nil_append]) (by first | exact nil2 | (rw [nil2]; simp))
  have b2 : Below w.heap.size w w2 := b1.grown gr2 (by simp; omega) (by simp)
  clear own2 gr2 nil2 oL b1 AL
  go_wp2
  go_ret
  exact ⟨g2, c2, rfl, o2, b2⟩
set_option maxRecDepth 100000 in
theorem insert_end (w : World) (B g n cap vb : Nat) (ps : List (Int × Int)) (x y : Int) (h20 : n ≤ 1048576) (hB : B ≤ w.heap.size) (ho : Own 91 w B g n cap ps) (hv : Own 91 w B vb 1 1 [(x, y)]) (hne : vb ≠ g) :
    Calls Tryz.prog 175 #[.slice (some ⟨g, 0, none⟩) n cap, .int .i64 n, .slice (some ⟨vb, 0, none⟩) 1 1] w fun e w' => ∃ g' c', e = .returned (.slice (some ⟨g', 0, none⟩) (n + 1) c') ∧ Own 91 w' B g' (n + 1) c' (ins ps n (x, y)) ∧ Below B w w' := by
  obtain ⟨i0, hi, hz0, hz1, hz2⟩ := info_parts info2
  obtain ⟨cap0, cap1⟩ := own_cap ho
  unfold maxLen at cap1
  by_cases ce : cap = n
  · subst ce
    go_enter Tryz.func175, Tryz.ntmps175
    go_wp2_with (at_builtin; refine wpList_append_own _ rfl (.tmp 23) (.tmp 24) 32 rfl B 91 i0 (.agg #[.int .i64 0, .int .i64 0]) 2 16 Tryz.underlying32 hi hz0 hz1 hz2 rfl (by decide) (.slice (some ⟨g, 0, none⟩) cap cap) cap _ rfl ho ⟨vb, 0, none⟩ 1 1 (flat [(x, y)]) rfl (by rw [flat_len]; rfl) hv.at.cells (fun u hu => flat_one u [(x, y)] hu) (by unfold maxLen; omega) (by omega) hB ?_)
    intro v2 w2 own2 (gr2 : World.grownBy _ w2 (some g)) nil2
    obtain ⟨g2, c2, rfl, o2⟩ := own_of_row (n' := cap + 1) (ps := ins ps cap (x, y)) own2 rfl (by rw [← flat_append]; congr 1; unfold ins; rw [← ho.len]; simp) (by first | exact nil2 | (rw [nil2]; simp))
    have lg := ho.lt.1
    have b2 : Below B w w2 := (Below.refl _ _).grown gr2 hB (by simpa using lg)
    clear own2 gr2 nil2
    go_wp2
    go_ret
    exact ⟨g2, c2, rfl, o2, b2⟩
  · have ce2 : ¬ n = cap := fun e => ce e.symm
    go_enter Tryz.func175, Tryz.ntmps175
    go_wp2_with (at_builtin; refine wpList_append_own _ rfl (.tmp 23) (.tmp 24) 32 rfl B 91 i0 (.agg #[.int .i64 0, .int .i64 0]) 2 16 Tryz.underlying32 hi hz0 hz1 hz2 rfl (by decide) (.slice (some ⟨g, 0, none⟩) n cap) n _ rfl ho ⟨vb, 0, none⟩ 1 1 (flat [(x, y)]) rfl (by rw [flat_len]; rfl) hv.at.cells (fun u hu => flat_one u [(x, y)] hu) (by unfold maxLen; omega) (by omega) hB ?_)
    intro v2 w2 own2 (gr2 : World.grownBy _ w2 (some g)) nil2
    obtain ⟨g2, c2, rfl, o2⟩ := own_of_row (n' := n + 1) (ps := ins ps n (x, y)) own2 rfl (by rw [← flat_append]; congr 1; unfold ins; rw [← ho.len]; simp) (by first | exact nil2 | (rw [nil2]; simp))
    have lg := ho.lt.1
    have b2 : Below B w w2 := (Below.refl _ _).grown gr2 hB (by simpa using lg)
    clear own2 gr2 nil2
    go_wp2
    go_ret
    exact ⟨g2, c2, rfl, o2, b2⟩
set_option maxRecDepth 100000 in
theorem insert_room (w : World) (B g n c cap vb : Nat) (ps : List (Int × Int)) (x y : Int) (h20 : n ≤ 1048576) (hB : B ≤ w.heap.size) (hc : c < n) (hr : n + 1 ≤ cap) (ho : Own 91 w B g n cap ps) (hv : Own 91 w B vb 1 1 [(x, y)]) (hne : vb ≠ g) :
    Calls Tryz.prog 175 #[.slice (some ⟨g, 0, none⟩) n cap, .int .i64 c, .slice (some ⟨vb, 0, none⟩) 1 1] w fun e w' => ∃ g' c', e = .returned (.slice (some ⟨g', 0, none⟩) (n + 1) c') ∧ Own 91 w' B g' (n + 1) c' (ins ps c (x, y)) ∧ Below B w w' := by
  obtain ⟨i0, hi, hz0, hz1, hz2⟩ := info_parts info2
  obtain ⟨cap0, cap1⟩ := own_cap ho
  unfold maxLen at cap1
  have nz : ¬ ((c : Int) = (n : Int)) := by omega
  have nr : ¬ ((cap : Int) < (n : Int) + 1) := by omega
  obtain ⟨U, hU, row0⟩ := row_more ho hr
  have hlen := ho.len
  obtain ⟨sg, fg⟩ := own_shape row0
  obtain ⟨sv, fv⟩ := own_shape hv
  have hsz : (Tryz.prog.info? 91).map (·.size) = some 2 := by rw [hi]; simp [hz1]
  have hzs : ∀ w, (Go.sizeOf 91).run Tryz.prog w = .ok 2 w := fun w => by simp [sizeOf, typeInfo, hi, hz1]
  have hov : ∀ lb cb, (callFunc 204 #[.slice (some ⟨vb, 0, none⟩) 1 1, .slice (some ⟨g, (c + 1) * 2, none⟩) lb cb]).run Tryz.prog w = .ok (.value (.bool false)) w := fun lb cb => by
    rw [run_callFunc_extern Tryz.func204 (by kernel_rfl) (by kernel_rfl) (by kernel_rfl) (e := Extern.SlicesOverlaps.overlaps #[32, 32] #[4]) (by kernel_rfl),
      Lib.run_overlaps_apart w 32 4 91 Tryz.underlying32 2 hzs ⟨vb, 0, none⟩ ⟨g, (c + 1) * 2, none⟩ 1 1 lb cb hne _ _ _ _ sv sg (by omega) (fv _) (fv _)]
    rfl
  have hdl : (ps.drop c).length = n - c := by rw [List.length_drop, hlen]
  have tail : ∀ j v, (flat (ps.drop c))[j]? = some v → w.cell? ((⟨g, c * 2, none⟩ : Addr).add j) = some v := tail_cells ho c (by omega)
  have hcp1 : ∀ ty dc sc, (Builtin.copy_ #[32, 32] ty #[.slice (some ⟨g, (c + 1) * 2, none⟩) (n - c) dc, .slice (some ⟨g, c * 2, none⟩) (n + 1 - c) sc]).run Tryz.prog w.drew = .ok (goInt (ps.drop c).length) (w.drew.setCells g ((c + 1) * 2) (flat (ps.drop c))) := fun ty dc sc =>
    run_copy2 w.drew _ _ ty 91 g ((c + 1) * 2) (n - c) dc ⟨g, c * 2, none⟩ (n + 1 - c) sc (ps.drop c) Tryz.underlying32 hsz (by rw [hdl]; simp only [Nat.min_def]; split <;> omega) tail (fun j hj => row_some row0 _ (by rw [hdl] at hj; omega)) fg
  obtain ⟨W1, hW1⟩ : ∃ W1, W1 = w.drew.setCells g ((c + 1) * 2) (flat (ps.drop c)) := ⟨_, rfl⟩
  obtain ⟨row1, gr1⟩ := row_set (flat (ps.drop c)) ((c + 1) * 2) w.drew _ (World.ownsRow.drew row0)
  rw [← hW1] at hcp1 row1 gr1
  have hv1 := (Own.drew hv).kept gr1 (by simpa using hne)
  have hcp2 : ∀ ty dc, (Builtin.copy_ #[32, 32] ty #[.slice (some ⟨g, c * 2, none⟩) (n + 1 - c) dc, .slice (some ⟨vb, 0, none⟩) 1 1]).run Tryz.prog W1 = .ok (goInt [(x, y)].length) (W1.setCells g (c * 2) (flat [(x, y)])) := fun ty dc =>
    run_copy2 W1 _ _ ty 91 g (c * 2) (n + 1 - c) dc ⟨vb, 0, none⟩ 1 1 [(x, y)] Tryz.underlying32 hsz (by simp only [Nat.min_def, List.length_singleton]; split <;> omega) hv1.at.cells (fun j hj => row_some row1 _ (by simp at hj; omega)) (own_shape row1).2
  obtain ⟨row2, gr2⟩ := row_set (flat [(x, y)]) (c * 2) W1 _ row1
  have own2 : Own 91 (W1.setCells g (c * 2) (flat [(x, y)])) B g (n + 1) cap (ins ps c (x, y)) := by
    have e := shift_then_put ps c x y U hU (by omega)
    unfold Own
    rw [← e]
    exact row2
  have lg := ho.lt.1
  have bel : Below B w (W1.setCells g (c * 2) (flat [(x, y)])) := (((Below.refl B w).drew).grown gr1 hB (by simpa using lg)).grown gr2 (Nat.le_trans hB gr1.size) (by simpa using lg)
  generalize W1.setCells g (c * 2) (flat [(x, y)]) = W2 at *
  have HO := hide own2
  have HB := hide bel
  clear row0 row1 row2 gr1 gr2 own2 bel ho hv hv1 sg fg sv fv hW1 tail hzs
  have mixed : Tryz.prog.follows .mixedOrders = true := by kernel_rfl
  have hw1 : IntKind.i64.wrap ((c : Int) + 1) = (c : Int) + 1 := by rw [IntKind.wrap_i64]; omega
  have k1 : (0 : Int) ≤ (c : Int) + 1 := by omega
  have k2 : ((c : Int) + 1).toNat = c + 1 := by omega
  have k3 : (c : Int) ≤ (n : Int) := by omega
  have k4 : (c : Int) ≤ (n : Int) + 1 := by omega
  have k5 : ¬ cap = c := by omega
  have k6 : ¬ cap = c + 1 := by omega
  have k7 : (c : Int) + 1 ≤ (n : Int) + 1 := by omega
  go_enter Tryz.func175, Tryz.ntmps175
  go_wp2_with (simp only [hov])
  go_region_law_o (refine step_copy_runI rfl _ _ 32 32 rfl _ _ (by simp [Act.eval, Act.put]) (by simp [Act.eval, Act.put]) (hcp1 _ _ _) ?_)
  go_wp2_with (at_builtin; refine wpList_copy_runI _ rfl _ _ 32 32 rfl _ _ rfl rfl (hcp2 _ _) ?_)
  go_ret
  exact ⟨g, cap, rfl, unhide HO, unhide HB⟩
set_option maxRecDepth 100000 in
theorem insert_grow (w : World) (B g n c cap vb : Nat) (ps : List (Int × Int)) (x y : Int) (h20 : n ≤ 1048576) (hB : B ≤ w.heap.size) (hc : c < n) (hr : ¬ n + 1 ≤ cap) (ho : Own 91 w B g n cap ps) (hv : Own 91 w B vb 1 1 [(x, y)]) (hne : vb ≠ g) :
    Calls Tryz.prog 175 #[.slice (some ⟨g, 0, none⟩) n cap, .int .i64 c, .slice (some ⟨vb, 0, none⟩) 1 1] w fun e w' => ∃ g' c', e = .returned (.slice (some ⟨g', 0, none⟩) (n + 1) c') ∧ Own 91 w' B g' (n + 1) c' (ins ps c (x, y)) ∧ Below B w w' := by
  obtain ⟨i0, hi, hz0, hz1, hz2⟩ := info_parts info2
  obtain ⟨cap0, cap1⟩ := own_cap ho
  unfold maxLen at cap1
  have nz : ¬ ((c : Int) = (n : Int)) := by omega
  have nr : ((cap : Int) < (n : Int) + 1) := by omega
  have hlen := ho.len
  have hsz : (Tryz.prog.info? 91).map (·.size) = some 2 := by rw [hi]; simp [hz1]
  have l1 : (flat (ps.take c)).length = c * 2 := by rw [flat_len]; simp; omega
  have hold : (Builtin.firstCells i0.size c (.slice (some ⟨g, 0, none⟩) c cap)).run Tryz.prog w.drew = .ok (flat (ps.take c)).toArray w.drew := by
    rw [hz1]
    exact run_firstCells_some w.drew 2 c ⟨g, 0, none⟩ c cap (flat (ps.take c)) l1 (fun j v hj => by
      have hX : flat ps = flat (ps.take c) ++ flat (ps.drop c) := by rw [← flat_append, List.take_append_drop]
      have hjl : j < (flat (ps.take c)).length := (List.getElem?_eq_some_iff.1 hj).1
      exact ho.at.cells j v (by rw [hX, List.getElem?_append_left hjl]; exact hj))
  obtain ⟨G, hG⟩ : ∃ G, G = grownCap w (n + 1) cap 91 := ⟨_, rfl⟩
  have hG1 : n + 1 ≤ G := by rw [hG]; exact grownCap_ge w _ _ _
  have hG2 : G ≤ maxLen := by rw [hG]; exact grownCap_le_maxLen w _ _ _ (by unfold maxLen; omega)
  obtain ⟨ROW, hROW⟩ : ∃ ROW : Array Value, ROW = (flat (ps.take c)).toArray ++ Builtin.zeroCells (Value.agg #[.int .i64 0, .int .i64 0]).cells (n + 1 - c) ++ Builtin.zeroCells (Value.agg #[.int .i64 0, .int .i64 0]).cells (G - (n + 1)) := ⟨_, rfl⟩
  have hrz : ∀ ty, (Builtin.append_ #[32, 3] ty #[.slice (some ⟨g, 0, none⟩) c cap, .int .i64 ((n : Int) + 1 - (c : Int))]).run Tryz.prog w = .ok (.slice (some ⟨w.heap.size, 0, none⟩) (n + 1) G) (w.drew.alloc (.cells ROW 91)) := fun ty => by
    have h := Lib.run_append_grow_zeros w 32 3 ty 91 i0 _ .i64 .i64 Tryz.underlying32 Tryz.underlying3 hi hz0 (some ⟨g, 0, none⟩) c cap (flat (ps.take c)) hold (n + 1 - c) (by omega) (by rw [hz1]; decide) (by omega) (by omega) (by rw [hz2]; omega) (by rw [hz2]; exact growslice_fits (by omega) (by omega))
    rw [show c + (n + 1 - c) = n + 1 by omega, ← hG, ← hROW] at h
    rw [show (n : Int) + 1 - (c : Int) = ((n + 1 - c : Nat) : Int) by omega]
    exact h
  have hRs : ROW.size = G * 2 := by
    rw [hROW]
    simp [Builtin.zeroCells, Value.cells, l1]
    omega
  obtain ⟨Z, hZ, hT⟩ : ∃ Z : List Value, Z.length = (ps.length + 1 - c) * 2 ∧ ROW.toList.take ((n + 1) * 2) = flat (ps.take c) ++ Z := by
    refine ⟨(Builtin.zeroCells (Value.agg #[.int .i64 0, .int .i64 0]).cells (n + 1 - c)).toList, by simp [Builtin.zeroCells, Value.cells]; omega, ?_⟩
    rw [hROW, Array.toList_append, Array.toList_append]
    rw [List.take_append_of_le_length (by simp [Builtin.zeroCells, Value.cells, l1]; omega), List.take_of_length_le (by simp [Builtin.zeroCells, Value.cells, l1]; omega)]
  obtain ⟨W1, hW1⟩ : ∃ W1, W1 = w.drew.alloc (.cells ROW 91) := ⟨_, rfl⟩
  have row1 : W1.ownsRow B 91 2 (.slice (some ⟨w.heap.size, 0, none⟩) (n + 1) G) (n + 1) (flat (ps.take c) ++ Z) := by
    rw [hW1]
    exact ⟨by rw [List.length_append, l1, hZ]; omega, .inr ⟨w.heap.size, G, ROW, rfl, hB, heap_alloc_new w.drew _, hG1, hG2, hRs, hT⟩⟩
  have gr1 : w.grownBy W1 none := by rw [hW1]; exact ⟨rfl, rfl, rfl, by simp, fun k hk _ => Below.heap_alloc w.drew _ k hk⟩
  rw [← hW1] at hrz
  have ho1 := ho.kept gr1 (by simp)
  have hv1 := hv.kept gr1 (by simp)
  have lg := ho.lt
  have lv := hv.lt
  have hcpA : ∀ ty dc, (Builtin.copy_ #[32, 32] ty #[.slice (some ⟨w.heap.size, c * 2, none⟩) (n + 1 - c) dc, .slice (some ⟨vb, 0, none⟩) 1 1]).run Tryz.prog W1 = .ok (goInt [(x, y)].length) (W1.setCells w.heap.size (c * 2) (flat [(x, y)])) := fun ty dc =>
    run_copy2 W1 _ _ ty 91 w.heap.size (c * 2) (n + 1 - c) dc ⟨vb, 0, none⟩ 1 1 [(x, y)] Tryz.underlying32 hsz (by simp only [Nat.min_def, List.length_singleton]; split <;> omega) hv1.at.cells (fun j hj => row_some row1 _ (by simp at hj; omega)) (own_shape row1).2
  obtain ⟨row2, gr2⟩ := row_set (flat [(x, y)]) (c * 2) W1 _ row1
  have ho2 := ho1.kept gr2 (by simp; omega)
  generalize hW2 : W1.setCells w.heap.size (c * 2) (flat [(x, y)]) = W2 at *
  have hdl : (ps.drop c).length = n - c := by rw [List.length_drop, hlen]
  have hcpB : ∀ ty dc sc, (Builtin.copy_ #[32, 32] ty #[.slice (some ⟨w.heap.size, (c + 1) * 2, none⟩) (n - c) dc, .slice (some ⟨g, c * 2, none⟩) (n - c) sc]).run Tryz.prog W2.drew = .ok (goInt (ps.drop c).length) (W2.drew.setCells w.heap.size ((c + 1) * 2) (flat (ps.drop c))) := fun ty dc sc =>
    run_copy2 W2.drew _ _ ty 91 w.heap.size ((c + 1) * 2) (n - c) dc ⟨g, c * 2, none⟩ (n - c) sc (ps.drop c) Tryz.underlying32 hsz (by rw [hdl]; simp) (tail_cells ho2 c (by omega)) (fun j hj => row_some row2 _ (by rw [hdl] at hj; omega)) (own_shape row2).2
  obtain ⟨row3, gr3⟩ := row_set (flat (ps.drop c)) ((c + 1) * 2) W2.drew _ (World.ownsRow.drew row2)
  generalize hW3 : W2.drew.setCells w.heap.size ((c + 1) * 2) (flat (ps.drop c)) = W3 at *
  have own3 : Own 91 W3 B w.heap.size (n + 1) G (ins ps c (x, y)) := by
    have e := put_then_tail ps c x y Z hZ (by omega)
    unfold Own
    rw [← e]
    exact row3
  have bel : Below B w W3 := ((((Below.refl B w).grown gr1 hB (by simp)).grown gr2 (Nat.le_trans hB gr1.size) (by simpa using hB)).drew).grown gr3 (Nat.le_trans hB (Nat.le_trans gr1.size gr2.size)) (by simpa using hB)
  have G63 : (G : Int) ≤ 9223372036854775807 := by unfold maxLen at hG2; omega
  have HO := hide own3
  have HB := hide bel
  clear row1 row2 row3 gr1 gr2 gr3 own3 bel ho hv ho1 ho2 hv1 hW1 hW2 hW3 hold hT hROW hG hRs hZ
  have mixed : Tryz.prog.follows .mixedOrders = true := by kernel_rfl
  have hw1 : IntKind.i64.wrap ((c : Int) + 1) = (c : Int) + 1 := by rw [IntKind.wrap_i64]; omega
  have k1 : (0 : Int) ≤ (c : Int) + 1 := by omega
  have k2 : ((c : Int) + 1).toNat = c + 1 := by omega
  have k3 : (c : Int) ≤ (n : Int) := by omega
  have k4 : (c : Int) ≤ (n : Int) + 1 := by omega
  have k5 : ¬ cap = c := by omega
  have k6 : ¬ G = c + 1 := by omega
  have k7 : (c : Int) + 1 ≤ (n : Int) + 1 := by omega
  have k8 : ¬ G = c := by omega
  go_enter Tryz.func175, Tryz.ntmps175
  go_wp2_with (first
    | (at_builtin; refine Lib.wpList_append_run _ rfl _ _ _ _ rfl _ _ rfl rfl _ _ (hrz _) ?_)
    | (at_builtin; refine wpList_copy_runI _ rfl _ _ 32 32 rfl _ _ rfl rfl (hcpA _ _) ?_))
  go_region_law_o (refine step_copy_runI rfl _ _ 32 32 rfl (.slice (some ⟨w.heap.size, (c + 1) * 2, none⟩) (n - c) (G - (c + 1))) (.slice (some ⟨g, c * 2, none⟩) (n - c) (cap - c)) (by simp [Act.eval, Act.put]) (by simp [Act.eval, Act.put]) (hcpB _ _ _) ?_)
  go_wp2
  go_ret
  exact ⟨w.heap.size, G, rfl, unhide HO, unhide HB⟩
/-- Insert at any place of a list of the call's own. -/
theorem iInsert (w : World) (B g n c cap vb : Nat) (ps : List (Int × Int)) (x y : Int) (h20 : n ≤ 1048576) (hB : B ≤ w.heap.size) (hc : c ≤ n) (ho : Own 91 w B g n cap ps) (hv : Own 91 w B vb 1 1 [(x, y)]) (hne : vb ≠ g) :
    Calls Tryz.prog 175 #[.slice (some ⟨g, 0, none⟩) n cap, .int .i64 c, .slice (some ⟨vb, 0, none⟩) 1 1] w fun e w' => ∃ g' c', e = .returned (.slice (some ⟨g', 0, none⟩) (n + 1) c') ∧ Own 91 w' B g' (n + 1) c' (ins ps c (x, y)) ∧ Below B w w' := by
  rcases Nat.lt_or_eq_of_le hc with l | l
  · by_cases r : n + 1 ≤ cap
    · exact insert_room w B g n c cap vb ps x y h20 hB l r ho hv hne
    · exact insert_grow w B g n c cap vb ps x y h20 hB l r ho hv hne
  · subst l
    exact insert_end w B g c cap vb ps x y h20 hB ho hv hne
end Go.Proofs.YtlbdfaahcmlddaaGreat.InstrIInsert
namespace Go.Proofs.YtlbdfaahcmlddaaGreat.InstrIPut
open Go.ChangeShapes Go.WideShapes Go.ChangeAt Go.RowKit Pairs Chart InstrIOk InstrIPlace InstrIKind InstrIInsert
theorem At.more {w : World} {g : Nat} {ps : List (Int × Int)} (h : At w g ps) (hg : g < w.heap.size) (o : Obj) : At (w.alloc o) g ps := h.below ((Below.refl w.heap.size w).alloc (Nat.le_refl _) o) hg
/-- What stands behind the store of a list into the chart that comes. -/
theorem stored_next {w w2 w3 w6 w7 : World} {g n g6 k6 : Nat} {v v1 v2 u u1 u2 : Value} {ps qs : List (Int × Int)} (hw7 : w7 = w6.setCell ⟨w2.heap.size, 0, none⟩ v) (s3 : w2.heap.size < w3.heap.size) (s2 : w.heap.size < w2.heap.size) (hg : g < w2.heap.size) (hl : ps.length = n)
    (ho : Own 91 w6 w3.heap.size g6 (n + 1) k6 qs) (e60 : w6.cell? ⟨w2.heap.size, 0, none⟩ = some u) (e61 : w6.cell? ⟨w2.heap.size, 1, none⟩ = some v1) (e62 : w6.cell? ⟨w2.heap.size, 2, none⟩ = some v2)
    (c60 : w6.cell? ⟨w.heap.size, 0, none⟩ = some u) (c61 : w6.cell? ⟨w.heap.size, 1, none⟩ = some u1) (c62 : w6.cell? ⟨w.heap.size, 2, none⟩ = some u2) (hA : At w6 g ps) (hB : Below w.heap.size w w6) :
    Own 91 w7 w3.heap.size g6 (n + 1) k6 qs ∧ At w7 g6 qs ∧ g6 < w7.heap.size ∧ w7.cell? ⟨w2.heap.size, 0, none⟩ = some v ∧ w7.cell? ⟨w2.heap.size, 1, none⟩ = some v1 ∧ w7.cell? ⟨w2.heap.size, 2, none⟩ = some v2 ∧
      w7.cell? ⟨w.heap.size, 0, none⟩ = some u ∧ w7.cell? ⟨w.heap.size, 1, none⟩ = some u1 ∧ w7.cell? ⟨w.heap.size, 2, none⟩ = some u2 ∧ At w7 g ps ∧ Below w.heap.size w w7 := by
  have l6 := ho.lt
  have hgr : w6.grownBy w7 (some w2.heap.size) := by
    rw [hw7]
    exact ⟨rfl, rfl, rfl, by simp [World.setCell], fun k _ hk => Below.heap_setCell _ _ _ _ (fun e => hk (by rw [e]))⟩
  have o7 := ho.kept hgr (by simp; omega)
  have oth : ∀ (b o : Nat), b ≠ w2.heap.size → w7.cell? ⟨b, o, none⟩ = w6.cell? ⟨b, o, none⟩ := fun b o hb => by
    rw [hw7]
    exact World.cell?_setCell_other _ _ _ _ (fun e => hb (by simpa using (congrArg Addr.block e).symm))
  have oth2 : ∀ (o : Nat), o ≠ 0 → w7.cell? ⟨w2.heap.size, o, none⟩ = w6.cell? ⟨w2.heap.size, o, none⟩ := fun o ho => by
    rw [hw7]
    exact World.cell?_setCell_other _ _ _ _ (fun e => ho (by simpa using (congrArg Addr.off e).symm))
  refine ⟨o7, o7.at, o7.lt.2, ?_, (oth2 1 (by omega)).trans e61, (oth2 2 (by omega)).trans e62, (oth _ 0 (by omega)).trans c60, (oth _ 1 (by omega)).trans c61, (oth _ 2 (by omega)).trans c62, fun i hi => ⟨(oth _ _ (by omega)).trans (hA i hi).1, (oth _ _ (by omega)).trans (hA i hi).2⟩, ?_⟩
  · rw [hw7]
    exact World.cell?_setCell_same _ _ _ e60
  · rw [hw7]
    exact hB.setCell (by show w.heap.size ≤ w2.heap.size; omega) _
set_option maxRecDepth 100000 in
set_option maxHeartbeats 8000000 in
theorem iChartPut (w : World) (g n cap : Nat) (ps : List (Int × Int)) (x y : Int) (hl : ps.length = n) (h20 : n ≤ 1048576) (hg : g < w.heap.size) (h : At w g ps) :
    Calls Tryz.prog 152 #[.agg #[.slice (some ⟨g, 0, none⟩) n cap, .int .i64 8, .int .i64 2], .agg #[.int .i64 x, .int .i64 y]] w fun e w' => ∃ qs ok g' c', IsPut 8 2 ps (x, y) qs ok ∧
      e = .returned (.tuple #[.slice (some ⟨g', 0, none⟩) qs.length c', .bool ok]) ∧ Own 91 w' w.heap.size g' qs.length c' qs ∧ Below w.heap.size w w' := by
  obtain ⟨ok, OK⟩ := says_of 8 2 ps
  have hfd : ∀ w : World, (Instr.field 177 (.agg #[.int .i64 x, .int .i64 y]) 0).run Tryz.prog w = .ok (.int .i64 x) w := fun _ => by kernel_rfl
  obtain ⟨W0, hW0⟩ : ∃ W0, W0 = (w.alloc (.cells #[.slice (some ⟨g, 0, none⟩) n cap, .int .i64 8, .int .i64 2] 156)).alloc (.cells #[.int .i64 x, .int .i64 y] 91) := ⟨_, rfl⟩
  have s0 : W0.heap.size = w.heap.size + 2 := by rw [hW0]; simp
  have b0 : Below w.heap.size w W0 := by rw [hW0]; exact ((Below.refl _ _).alloc (Nat.le_refl _) _).alloc (by simp) _
  have c00 : W0.cell? ⟨w.heap.size, 0, none⟩ = some (.slice (some ⟨g, 0, none⟩) n cap) := by rw [hW0]; simp
  have c01 : W0.cell? ⟨w.heap.size, 1, none⟩ = some (.int .i64 8) := by rw [hW0]; simp
  have c02 : W0.cell? ⟨w.heap.size, 2, none⟩ = some (.int .i64 2) := by rw [hW0]; simp
  have d00 : W0.cell? ⟨w.heap.size + 1, 0, none⟩ = some (.int .i64 x) := by rw [hW0]; simp
  have d01 : W0.cell? ⟨w.heap.size + 1, 1, none⟩ = some (.int .i64 y) := by rw [hW0]; simp
  have A0 := hide (h.below b0 hg)
  have B0 := hide b0
  clear h b0
  cases ok
  · go_enter Tryz.func152, Tryz.ntmps152
    go_wp2_with fail
    rw [← hW0]
    refine (iOk _ g n cap ps false hl h20 (by omega) (unhide A0) OK).mono ?_
    rintro e w1 ⟨rfl, b1⟩
    have B1 := hide (next (unhide B0) b1)
    have s1 := b1.size
    clear b1 c00 c01 c02 d00 d01 hW0
    go_wp2
    go_ret2
    refine ⟨[], false, w1.heap.size, 0, .inl ⟨OK.no, rfl, rfl⟩, rfl, lit0 _ w1 w.heap.size (by omega), (unhide B1).alloc (by omega) _⟩
  · have n20 : n ≤ 8 := by have := OK.yes.1; omega
    go_enter Tryz.func152, Tryz.ntmps152
    go_wp2_with fail
    rw [← hW0]
    refine (iOk _ g n cap ps true hl h20 (by omega) (unhide A0) OK).mono ?_
    rintro e w1 ⟨rfl, b1⟩
    clear hW0
    have s1 := b1.size
    have A1 := hide ((unhide A0).below b1 (by omega))
    have B1 := hide (next (unhide B0) b1)
    have c10 := (b1.cell (p := ⟨w.heap.size, 0, none⟩) (by show w.heap.size < _; omega)).trans c00
    have c11 := (b1.cell (p := ⟨w.heap.size, 1, none⟩) (by show w.heap.size < _; omega)).trans c01
    have c12 := (b1.cell (p := ⟨w.heap.size, 2, none⟩) (by show w.heap.size < _; omega)).trans c02
    have d10 := (b1.cell (p := ⟨w.heap.size + 1, 0, none⟩) (by show w.heap.size + 1 < _; omega)).trans d00
    have d11 := (b1.cell (p := ⟨w.heap.size + 1, 1, none⟩) (by show w.heap.size + 1 < _; omega)).trans d01
    clear b1 c00 c01 c02 d00 d01
    go_wp2_with fail
    refine (iPlace _ g n cap ps x hl h20 (by omega) (unhide A1) (hide OK.yes.asc)).mono ?_
    rintro e w2 ⟨c, f, hc, hf, rfl, b2⟩
    have s2 := b2.size
    have A2 := hide ((unhide A1).below b2 (by omega))
    have B2 := hide (next (unhide B1) b2)
    have c20 := (b2.cell (p := ⟨w.heap.size, 0, none⟩) (by show w.heap.size < _; omega)).trans c10
    have c21 := (b2.cell (p := ⟨w.heap.size, 1, none⟩) (by show w.heap.size < _; omega)).trans c11
    have c22 := (b2.cell (p := ⟨w.heap.size, 2, none⟩) (by show w.heap.size < _; omega)).trans c12
    have d20 := (b2.cell (p := ⟨w.heap.size + 1, 0, none⟩) (by show w.heap.size + 1 < _; omega)).trans d10
    have d21 := (b2.cell (p := ⟨w.heap.size + 1, 1, none⟩) (by show w.heap.size + 1 < _; omega)).trans d11
    have PC := hide hc
    have cn : c ≤ n := by have := hc.1; omega
    clear b2 c10 c11 c12 d10 d11 hc hf
    go_wp2_with fail
    obtain ⟨w3, hw3⟩ : ∃ w3, w3 = w2.alloc (.cells #[.slice (some ⟨g, 0, none⟩) n cap, .int .i64 8, .int .i64 2] 156) := ⟨_, rfl⟩
    have s3 : w2.heap.size < w3.heap.size := by rw [hw3]; simp
    have b3 : Below w2.heap.size w2 w3 := by rw [hw3]; exact (Below.refl _ _).alloc (Nat.le_refl _) _
    have A3 : At w3 g ps := (unhide A2).below b3 (by omega)
    have B3 := hide (next (unhide B2) b3)
    have c30 := (b3.cell (p := ⟨w.heap.size, 0, none⟩) (by show w.heap.size < _; omega)).trans c20
    have c31 := (b3.cell (p := ⟨w.heap.size, 1, none⟩) (by show w.heap.size < _; omega)).trans c21
    have c32 := (b3.cell (p := ⟨w.heap.size, 2, none⟩) (by show w.heap.size < _; omega)).trans c22
    have d30 := (b3.cell (p := ⟨w.heap.size + 1, 0, none⟩) (by show w.heap.size + 1 < _; omega)).trans d20
    have d31 := (b3.cell (p := ⟨w.heap.size + 1, 1, none⟩) (by show w.heap.size + 1 < _; omega)).trans d21
    have e30 : w3.cell? ⟨w2.heap.size, 0, none⟩ = some (.slice (some ⟨g, 0, none⟩) n cap) := by rw [hw3]; simp
    have e31 : w3.cell? ⟨w2.heap.size, 1, none⟩ = some (.int .i64 8) := by rw [hw3]; simp
    have e32 : w3.cell? ⟨w2.heap.size, 2, none⟩ = some (.int .i64 2) := by rw [hw3]; simp
    have f30 : w3.frozen? ⟨w2.heap.size, 0, none⟩ = false := by rw [hw3]; simp
    rw [← hw3]
    have bV : Below w3.heap.size w3 (w3.alloc (.cells #[.int .i64 x, .int .i64 y] 91)) := (Below.refl _ _).alloc (Nat.le_refl _) _
    have v30 := (bV.cell (p := ⟨w.heap.size, 0, none⟩) (by show w.heap.size < _; omega)).trans c30
    have v31 := (bV.cell (p := ⟨w.heap.size, 1, none⟩) (by show w.heap.size < _; omega)).trans c31
    have v32 := (bV.cell (p := ⟨w.heap.size, 2, none⟩) (by show w.heap.size < _; omega)).trans c32
    clear bV
    have AA := hide A3
    clear A3 hw3 b3 c20 c21 c22 d20 d21
    go_region_with (first
      | (go_at_call 176
         refine (iCopied _ g n cap ps hl h20 (by simp; omega) (by first | exact unhide AA | exact At.more (unhide AA) (by omega) _)).mono ?_
         rintro e w4 ⟨g4, k4, rfl, o4, b4⟩
         have bw : Below w3.heap.size w3 w4 := by first | exact (Below.refl w3.heap.size w3).drew.trans b4 | exact ((Below.refl w3.heap.size w3).drew.alloc (Nat.le_refl _) _).trans (b4.mono (by simp))
         have s4 := bw.size
         have d40 := (bw.cell (p := ⟨w.heap.size + 1, 0, none⟩) (by show w.heap.size + 1 < _; omega)).trans d30
         have d41 := (bw.cell (p := ⟨w.heap.size + 1, 1, none⟩) (by show w.heap.size + 1 < _; omega)).trans d31)
      | (go_at_call_of 175 (Value.slice (some ⟨w4.heap.size, 0, none⟩) 1 1)
         refine (iInsert _ w3.heap.size g4 n c k4 w4.heap.size ps x y (by omega) (by simp; omega) cn ((o4.rebase (by have := o4.lt.1; simpa using this)).alloc _) (lit1 _ w4 w3.heap.size x y s4) (by have := o4.lt; omega)).mono ?_
         rintro e w6 ⟨g6, k6, rfl, o6, b6⟩
         have BB : Below w3.heap.size w3 w6 := (bw.alloc s4 _).trans b6
         have e60 := (BB.cell (p := ⟨w2.heap.size, 0, none⟩) (by show w2.heap.size < _; omega)).trans e30
         have f60 := (BB.frozen (p := ⟨w2.heap.size, 0, none⟩) (by show w2.heap.size < _; omega)).trans f30
         have HO6 := hide o6
         have HB6 := hide BB
         clear o6 b6 BB o4 b4 bw)
      | (go_at_call_of 175 (Value.slice (some ⟨w3.heap.size, 0, none⟩) 1 1)
         refine (iInsert _ w3.heap.size g4 n c k4 w3.heap.size ps x y (by omega) s4 cn (o4.rebase (by have := o4.lt.1; simp at this; omega)) ((lit1 91 w3.drew w3.heap.size x y (Nat.le_refl _)).below b4 (by simp)) (by have := o4.lt.1; simp at this; omega)).mono ?_
         rintro e w6 ⟨g6, k6, rfl, o6, b6⟩
         have BB : Below w3.heap.size w3 w6 := bw.trans b6
         have e60 := (BB.cell (p := ⟨w2.heap.size, 0, none⟩) (by show w2.heap.size < _; omega)).trans e30
         have f60 := (BB.frozen (p := ⟨w2.heap.size, 0, none⟩) (by show w2.heap.size < _; omega)).trans f30
         have HO6 := hide o6
         have HB6 := hide BB
         clear o6 b6 BB o4 b4 bw))
    all_goals
      (obtain ⟨w7, hw7⟩ : ∃ w7, w7 = w6.setCell ⟨w2.heap.size, 0, none⟩ (.slice (some ⟨g6, 0, none⟩) (n + 1) k6) := ⟨_, rfl⟩
       have e61 := ((unhide HB6).cell (p := ⟨w2.heap.size, 1, none⟩) s3).trans e31
       have e62 := ((unhide HB6).cell (p := ⟨w2.heap.size, 2, none⟩) s3).trans e32
       have c60 := ((unhide HB6).cell (p := ⟨w.heap.size, 0, none⟩) (by show w.heap.size < _; omega)).trans c30
       have c61 := ((unhide HB6).cell (p := ⟨w.heap.size, 1, none⟩) (by show w.heap.size < _; omega)).trans c31
       have c62 := ((unhide HB6).cell (p := ⟨w.heap.size, 2, none⟩) (by show w.heap.size < _; omega)).trans c32
       have A6 := (unhide AA).below (unhide HB6) (by omega)
       have l6 := (unhide HO6).lt
       have s6 := (unhide HB6).size
       obtain ⟨own7, at7, sz7, e70, e71, e72, c70, c71, c72, A7, B7⟩ := stored_next hw7 s3 (by omega) (by omega) hl (unhide HO6) e60 e61 e62 c60 c61 c62 A6 ((unhide B3).trans ((unhide HB6).mono (by omega)))
       rw [← hw7]
       clear hw7 e30 e31 e32 f30 e60 f60 e61 e62 c60 c61 c62 c30 c31 c32 d30 d31 d40 d41 v30 v31 v32 HO6 HB6 A6
       obtain ⟨ok2, OK2⟩ := says_of 8 2 (ins ps c (x, y))
       have li : (ins ps c (x, y)).length = n + 1 := by rw [ins_len _ _ _ (by omega)]; omega
       have O7 := hide own7
       have T7 := hide at7
       have G7 := hide A7
       have H7 := hide B7
       have LI := hide li
       clear own7 at7 A7 B7 li
       cases ok2
       · go_wp2_with fail
         refine (iOk _ g6 (n + 1) k6 (ins ps c (x, y)) false (unhide LI) (by omega) (by omega) (unhide T7) OK2).mono ?_
         rintro e w8 ⟨rfl, b8⟩
         have s8 := b8.size
         have c80 := (b8.cell (p := ⟨w.heap.size, 0, none⟩) (by show w.heap.size < _; omega)).trans c70
         have c81 := (b8.cell (p := ⟨w.heap.size, 1, none⟩) (by show w.heap.size < _; omega)).trans c71
         have c82 := (b8.cell (p := ⟨w.heap.size, 2, none⟩) (by show w.heap.size < _; omega)).trans c72
         have G8 := hide ((unhide G7).below b8 (by omega))
         have H8 := hide (next (unhide H7) b8)
         clear b8 e70 e71 e72 c70 c71 c72
         go_wp2_with fail
         refine (iCopied _ g n cap ps hl h20 (by omega) (unhide G8)).mono ?_
         rintro e w9 ⟨g9, k9, rfl, o9, b9⟩
         have O9 := hide (o9.rebase (base' := w.heap.size) (by have := o9.lt.1; omega))
         have H9 := hide (next (unhide H8) b9)
         clear o9 b9
         go_wp2
         go_ret2
         exact ⟨ps, false, g9, k9, .inr ⟨OK.yes, c, unhide PC, .inl ⟨OK2.no, rfl, rfl⟩⟩, by rw [hl]; rfl, by rw [hl]; exact unhide O9, unhide H9⟩
       · go_wp2_with fail
         refine (iOk _ g6 (n + 1) k6 (ins ps c (x, y)) true (unhide LI) (by omega) (by omega) (unhide T7) OK2).mono ?_
         rintro e w8 ⟨rfl, b8⟩
         have e80 := (b8.cell (p := ⟨w2.heap.size, 0, none⟩) (by show w2.heap.size < _; omega)).trans e70
         have O8 := hide (((unhide O7).below b8 (by omega)).rebase (base' := w.heap.size) (by omega))
         have H8 := hide (next (unhide H7) b8)
         clear b8 e70 e71 e72 c70 c71 c72
         go_wp2
         go_ret2
         exact ⟨ins ps c (x, y), true, g6, k6, .inr ⟨OK.yes, c, unhide PC, .inr ⟨OK2.yes, rfl, rfl⟩⟩, by rw [unhide LI]; rfl, by rw [unhide LI]; exact unhide O8, unhide H8⟩)
set_option maxRecDepth 100000 in
theorem iPut (w : World) (g n cap : Nat) (ps : List (Int × Int)) (x y : Int) (hl : ps.length = n) (h20 : n ≤ 1048576) (hg : g < w.heap.size) (h : At w g ps) :
    Calls Tryz.prog 121 #[.slice (some ⟨g, 0, none⟩) n cap, .agg #[.int .i64 x, .int .i64 y]] w fun e w' => ∃ qs ok g' c', IsPut 8 2 ps (x, y) qs ok ∧
      e = .returned (.tuple #[.slice (some ⟨g', 0, none⟩) qs.length c', .bool ok]) ∧ Own 91 w' w.heap.size g' qs.length c' qs ∧ Below w.heap.size w w' := by
  obtain ⟨W0, hW0⟩ : ∃ W0, W0 = w.alloc (.cells #[.int .i64 x, .int .i64 y] 91) := ⟨_, rfl⟩
  have s0 : w.heap.size < W0.heap.size := by rw [hW0]; simp
  have b0 : Below w.heap.size w W0 := by rw [hW0]; exact (Below.refl _ _).alloc (Nat.le_refl _) _
  have d00 : W0.cell? ⟨w.heap.size, 0, none⟩ = some (.int .i64 x) := by rw [hW0]; simp
  have d01 : W0.cell? ⟨w.heap.size, 1, none⟩ = some (.int .i64 y) := by rw [hW0]; simp
  have A0 := hide (h.below b0 hg)
  have B0 := hide b0
  clear h b0
  go_enter Tryz.func121, Tryz.ntmps121
  go_wp2_with fail
  rw [← hW0]
  clear hW0
  go_region_with (first
    | (go_at_call 135
       refine (iChart _ g n cap).mono ?_
       rintro e w1 ⟨rfl, b1⟩
       have bw : Below W0.heap.size W0 w1 := (Below.refl W0.heap.size W0).drew.trans b1
       have s1 := bw.size
       have d10 := (bw.cell (p := ⟨w.heap.size, 0, none⟩) s0).trans d00
       have d11 := (bw.cell (p := ⟨w.heap.size, 1, none⟩) s0).trans d01
       have A1 := hide ((unhide A0).below bw (by omega))
       have B1 := hide (next (unhide B0) bw)
       clear b1 bw)
    | (go_at_call 152
       refine (iChartPut _ g n cap ps x y hl h20 (by omega) (unhide A1)).mono ?_
       rintro e w2 ⟨qs, ok, g2, k2, hp, rfl, o2, b2⟩
       have P2 := hide hp
       have O2 := hide (o2.rebase (base' := w.heap.size) (by have := o2.lt.1; omega))
       have B2 := hide (next (unhide B1) b2)
       clear hp o2 b2))
  all_goals
    (go_wp2
     go_ret2
     exact ⟨qs, ok, g2, k2, unhide P2, rfl, unhide O2, unhide B2⟩)
end Go.Proofs.YtlbdfaahcmlddaaGreat.InstrIPut
namespace Go.Proofs.YtlbdfaahcmlddaaGreat.IInstrAdd
open Go.ChangeShapes Go.WideShapes Go.ChangeAt Go.RowKit BMem Bks ILists BHelp Ans ICopied ICmdB IHave
open IBalsFit (one_more)
open ITrade (at_new)
open IBalsFit (all_one)
open Lots (Says says_of NoOk)
set_option maxRecDepth 100000 in
set_option maxHeartbeats 4000000 in
theorem iAdd (u : World) (z : Bx) (base g : Nat) (no kind : Int) (ok : Ok z.b) (V : Var u base g z) (O : Ow u (base + 4) z) (hg : g < base + 4) :
    Calls Tryz.prog 71 #[.pointer (some ⟨g, 0, none⟩), .agg #[.int .i64 no, .int .i64 kind]] u fun e u' => ∃ b' c, IsIns z.b no kind b' c ∧ e = .returned (.int .i64 c) ∧ ((c = 0 ∧ ∃ y, y.b = b' ∧ Var u' base g y ∧ Ow u' (base + 4) y) ∨ (c ≠ 0 ∧ AnyBox u' base g)) ∧ u.grownBy u' (some g) := by
  obtain ⟨b0, h0⟩ := says_of (kindOf z.b.ic no ≠ 0)
  have H0 := hide h0
  have LI := hide ok.1
  have S0 := hide (DW.start V O (ok_small ok))
  have S1 := hide ((unhide S0).step (one_more u (.cells #[.int .i64 no, .int .i64 kind] 91)))
  have k0 : (u.alloc (.cells #[.int .i64 no, .int .i64 kind] 91)).cell? ⟨u.heap.size, 0, none⟩ = some (.int .i64 no) := by simp
  have k1 : (u.alloc (.cells #[.int .i64 no, .int .i64 kind] 91)).cell? ⟨u.heap.size, 1, none⟩ = some (.int .i64 kind) := by simp
  have z1 : u.heap.size < (u.alloc (.cells #[.int .i64 no, .int .i64 kind] 91)).heap.size := by simp
  clear h0 ok V O
  go_enter Tryz.func71, Tryz.ntmps71
  go_wp2_with fail
  generalize u.alloc (.cells #[.int .i64 no, .int .i64 kind] 91) = u1 at *
  have d0 := (unhide S1).v.c0
  have d1 := (unhide S1).v.c1
  have d2 := (unhide S1).v.c2
  have d3 := (unhide S1).v.c3
  have d4 := (unhide S1).v.c4
  have d5 := (unhide S1).v.c5
  go_region_held3 (fun w' => w'.cell? ⟨u.heap.size, 0, none⟩ = some (.int .i64 no) ∧ w'.cell? ⟨g, 0, none⟩ = some (.slice (some ⟨z.ga, 0, none⟩) z.b.ac.length z.ca) ∧ w'.cell? ⟨g, 1, none⟩ = some (.slice (some ⟨z.gi, 0, none⟩) z.b.ic.length z.ci) ∧ w'.cell? ⟨g, 2, none⟩ = some (.slice (some ⟨z.gb, 0, none⟩) z.b.bs.length z.cb) ∧ w'.cell? ⟨g, 3, none⟩ = some (.slice (some ⟨z.gl, 0, none⟩) z.b.ls.length z.cl) ∧ w'.cell? ⟨g, 4, none⟩ = some (.slice (some ⟨z.gt, 0, none⟩) z.b.ts.length z.ct) ∧ w'.cell? ⟨g, 5, none⟩ = some (.int .i64 z.b.lot)) (go_keep)
    ((go_at_call 102
      refine (iHaveInstrs _ z u1.heap.size 1 1 [no] b0 ((unhide S1).drew.step (one_more _ _)).r (unhide LI).2.1 rfl (by omega) (by simp) (at_new _ [no] _ rfl rfl) (all_one (unhide H0))).mono ?_
      rintro e w1 ⟨rfl, bb⟩
      have S2 := hide (((unhide S1).drew.step (one_more _ _)).step bb)
      have f0 : w1.cell? ⟨u.heap.size, 0, none⟩ = some (.int .i64 no) := (bb.cell (p := ⟨u.heap.size, 0, none⟩) (by simp; omega)).trans ((World.cell?_alloc_past _ _ _ z1).trans k0)
      have f1 : w1.cell? ⟨u.heap.size, 1, none⟩ = some (.int .i64 kind) := (bb.cell (p := ⟨u.heap.size, 1, none⟩) (by simp; omega)).trans ((World.cell?_alloc_past _ _ _ z1).trans k1)
      have zz : u.heap.size < w1.heap.size := by have := bb.size; simp at this; omega
      have e0 := (unhide S2).v.c0
      have e1 := (unhide S2).v.c1
      have e2 := (unhide S2).v.c2
      have e3 := (unhide S2).v.c3
      have e4 := (unhide S2).v.c4
      have e5 := (unhide S2).v.c5
      clear bb))
  clear d0 d1 d2 d3 d4 d5
  cases b0
  rotate_left
  · go_wp2
    go_ret
    exact ⟨z.b, 2, .inl ⟨(unhide H0).yes, rfl, rfl⟩, rfl, .inr ⟨by omega, Var.any (unhide S2).v⟩, (unhide S2).grown⟩
  have KZ := hide (show kindOf z.b.ic no = 0 from Decidable.byContradiction (unhide H0).no)
  have na := (unhide S2).r.ni
  have fJ := (unhide S2).v.free 1
  go_wp2_with fail
  go_region_held3 (fun w' => w'.cell? ⟨u.heap.size, 0, none⟩ = some (.int .i64 no) ∧ w'.cell? ⟨u.heap.size, 1, none⟩ = some (.int .i64 kind) ∧ w'.cell? ⟨g, 1, none⟩ = some (.slice (some ⟨z.gi, 0, none⟩) z.b.ic.length z.ci)) (go_keep)
    ((go_at_call 121
      refine (InstrIPut.iPut _ z.gi _ z.ci z.b.ic no kind rfl na (unhide S2).drew.r.li (unhide S2).drew.r.ri).mono ?_
      rintro e w2 ⟨qs, ok, g2, k2, hp, rfl, o2, bb⟩
      have S3 := hide ((unhide S2).drew.step bb)
      have h0 : w2.cell? ⟨u.heap.size, 0, none⟩ = some (.int .i64 no) := (bb.cell (p := ⟨u.heap.size, 0, none⟩) zz).trans f0
      have h1 : w2.cell? ⟨u.heap.size, 1, none⟩ = some (.int .i64 kind) := (bb.cell (p := ⟨u.heap.size, 1, none⟩) zz).trans f1
      have hJ := (unhide S3).v.c1
      have IP := hide hp
      have O2 := hide o2
      have G2 := hide (show u.heap.size < g2 from Nat.lt_of_lt_of_le zz o2.lt.1)
      clear bb hp o2))
  cases ok
  · go_wp2
    go_ret
    exact ⟨z.b, 7, .inr ⟨unhide KZ, qs, false, unhide IP, .inl ⟨rfl, rfl, rfl⟩⟩, rfl, .inr ⟨by omega, Var.any (unhide S3).v⟩, (unhide S3).grown⟩
  · have gJ := (unhide S3).v.free 1
    go_wp2
    go_ret
    have LO := ow_lo (unhide S3).o
    have LT := Box.lt (unhide S2).v
    have LU := Box.lt (unhide S0).v
    refine ⟨{ z.b with ic := qs }, 0, .inr ⟨unhide KZ, qs, true, unhide IP, .inr ⟨rfl, rfl, rfl⟩⟩, rfl, .inl ⟨rfl, { z with gi := g2, ci := k2, b := { z.b with ic := qs } }, rfl, (Box.set1 (unhide S3).v _).1, ?_⟩, Pairs.grown_trans (unhide S3).grown (Box.set1 (unhide S3).v _).2⟩
    refine ow_set (show Ow w2 (base + 4) { z with gi := g2, ci := k2, b := { z.b with ic := qs } } from { (unhide S3).o with oi := (unhide O2).rebase ?_ }) ?_ 1 _
    · exact Nat.le_trans (Nat.le_of_lt (Nat.lt_of_le_of_lt (ow_lo (unhide S2).o).1 (ow_up (unhide S2).o).1)) (unhide O2).lt.1
    · have G := unhide G2
      unfold Lo at LO
      unfold Off
      simp
      omega
set_option maxRecDepth 100000 in
theorem iClosure (u : World) (z : Bx) (base g : Nat) (pn pk : Addr) (no kind : Int) (hn : u.cell? pn = some (.int .i64 no)) (hk : u.cell? pk = some (.int .i64 kind)) (ok : Ok z.b) (V : Var u base g z) (O : Ow u (base + 4) z) (hg : g < base + 4) :
    Calls Tryz.prog 70 #[.pointer (some ⟨g, 0, none⟩), .pointer (some pn), .pointer (some pk)] u (Does (fun b' t c => t = 0 ∧ IsIns z.b no kind b' c) base g u) := by
  have V1 := hide V
  have O1 := hide O
  clear V O
  go_enter Tryz.func70, Tryz.ntmps70
  go_wp2_with fail
  refine (iAdd u z base g no kind ok (unhide V1) (unhide O1) hg).mono ?_
  rintro e u' ⟨b', c, hI, rfl, hz, gr⟩
  have HI := hide hI
  have HZ := hide hz
  have GR := hide gr
  clear hI hz gr
  go_wp2
  go_ret2
  exact ⟨b', 0, c, ⟨rfl, unhide HI⟩, rfl, unhide HZ, unhide GR⟩
end Go.Proofs.YtlbdfaahcmlddaaGreat.IInstrAdd
namespace Go.Proofs.YtlbdfaahcmlddaaGreat.IInstrTell
open Go.ChangeShapes Go.WideShapes Go.ChangeAt Go.RowKit BMem Bks ILists BHelp Ans ICopied ICmdB IHave
open IBalsFit (one_more all_one)
open ITrade (at_new)
open Lots (Says says_of NoOk)
theorem says_no {p : Prop} (h : ¬ p) : Says false p := ⟨fun e => Bool.noConfusion e, fun r => absurd r h⟩
theorem says_yes {p : Prop} (h : p) : Says true p := ⟨fun _ => h, fun _ => rfl⟩
theorem six_alloc {B : Nat} {a w : World} {g : Nat} (h : Below B a w) (hB : B ≤ w.heap.size) (hg : B ≤ g) (u0 u1 u2 u3 u4 u5 : Value) (o : Obj) : Below B a (((((((w.setCell ⟨g, 0, none⟩ u0).setCell ⟨g, 1, none⟩ u1).setCell ⟨g, 2, none⟩ u2).setCell ⟨g, 3, none⟩ u3).setCell ⟨g, 4, none⟩ u4).setCell ⟨g, 5, none⟩ u5).alloc o) :=
  (six h hg u0 u1 u2 u3 u4 u5).alloc (by simpa using hB) o
theorem ow_six_alloc {w : World} {base base' : Nat} {z : Bx} {g : Nat} (h : Ow w base z) (off : Off z g) (hb : base' ≤ base) (u0 u1 u2 u3 u4 u5 : Value) (o : Obj) : Ow (((((((w.setCell ⟨g, 0, none⟩ u0).setCell ⟨g, 1, none⟩ u1).setCell ⟨g, 2, none⟩ u2).setCell ⟨g, 3, none⟩ u3).setCell ⟨g, 4, none⟩ u4).setCell ⟨g, 5, none⟩ u5).alloc o) base' z :=
  (ow_alloc (ow_six h off u0 u1 u2 u3 u4 u5) o).rebase hb
theorem box_six_alloc {w : World} {base g : Nat} {v0 v1 v2 v3 v4 v5 : Value} (h : Box w base g v0 v1 v2 v3 v4 v5) (u0 u1 u2 u3 u4 u5 : Value) (o : Obj) : Box (((((((w.setCell ⟨g, 0, none⟩ u0).setCell ⟨g, 1, none⟩ u1).setCell ⟨g, 2, none⟩ u2).setCell ⟨g, 3, none⟩ u3).setCell ⟨g, 4, none⟩ u4).setCell ⟨g, 5, none⟩ u5).alloc o) base g u0 u1 u2 u3 u4 u5 := World.ownsRow.alloc (box_six h u0 u1 u2 u3 u4 u5).1 o
theorem to_wb {P : Program} {fn : Func} {R : Ending → World → Prop} {ex : Exit} {a : Act} {W : World} (Pr : World → Prop) (h : Pr W) (k : ∀ W, Pr W → bodyPost P fn R ex a W) : bodyPost P fn R ex a W := k W h
/-- The books that were handed in, the two numbers, and the answer's variable behind them. -/
structure TW (w W : World) (x : Bx) (no kind : Int) : Prop where
  r : Rd W x
  c : Cl W w.heap.size x
  n : W.cell? ⟨w.heap.size + 1, 0, none⟩ = some (.int .i64 no)
  k : W.cell? ⟨w.heap.size + 1 + 1, 0, none⟩ = some (.int .i64 kind)
  v : Box W w.heap.size (w.heap.size + 1 + 1 + 1) (.slice none 0 0) (.slice none 0 0) (.slice none 0 0) (.slice none 0 0) (.slice none 0 0) (.int .i64 0)
  b : Below w.heap.size w W
theorem TW.step {w W W' : World} {x : Bx} {no kind : Int} (h : TW w W x no kind) (k : Below W.heap.size W W') : TW w W' x no kind := by
  have l := h.v.lt
  exact ⟨h.r.below k, h.c.below k (by omega), (k.cell (p := ⟨w.heap.size + 1, 0, none⟩) (by simp; omega)).trans h.n, (k.cell (p := ⟨w.heap.size + 1 + 1, 0, none⟩) (by simp; omega)).trans h.k, h.v.below k (by omega), h.b.trans (k.mono h.b.size)⟩
theorem TW.start {w : World} {x : Bx} {no kind : Int} (h : Rd w x) : TW w ((((w.alloc (.cells #[.slice (some ⟨x.ga, 0, none⟩) x.b.ac.length x.ca, .slice (some ⟨x.gi, 0, none⟩) x.b.ic.length x.ci, .slice (some ⟨x.gb, 0, none⟩) x.b.bs.length x.cb, .slice (some ⟨x.gl, 0, none⟩) x.b.ls.length x.cl, .slice (some ⟨x.gt, 0, none⟩) x.b.ts.length x.ct, .int .i64 x.b.lot] 37)).alloc (.cells #[.int .i64 no] 3)).alloc (.cells #[.int .i64 kind] 3)).alloc (.cells #[.slice none 0 0, .slice none 0 0, .slice none 0 0, .slice none 0 0, .slice none 0 0, .int .i64 0] 37)) x no kind :=
  ⟨(((h.alloc _).alloc _).alloc _).alloc _, (((boxed w x 37).below (one_more _ _) (by simp)).below (one_more _ _) (by simp; omega)).below (one_more _ _) (by simp; omega), ((one_more _ _).cell (p := ⟨w.heap.size + 1, 0, none⟩) (by simp)).trans (((one_more _ _).cell (p := ⟨w.heap.size + 1, 0, none⟩) (by simp)).trans (cell_new _ _ _ (by simp))), ((one_more _ _).cell (p := ⟨w.heap.size + 1 + 1, 0, none⟩) (by simp)).trans (cell_new _ _ _ (by simp)), Box.made _ _ _ _ _ _ (by simp; omega) (by simp), ((((Below.refl w.heap.size w).alloc (Nat.le_refl _) _).alloc (by simp) _).alloc (by simp; omega) _).alloc (by simp; omega) _⟩
theorem is_same {b b' : Bk} {no kind c : Int} (h : IsIns b no kind b' c) (hc : c ≠ 0) : IsIns b no kind b c := by
  rcases h with ⟨h, rfl, rfl⟩ | ⟨h, qs, ok, hp, ⟨h1, rfl, rfl⟩ | ⟨h1, rfl, rfl⟩⟩
  · exact .inl ⟨h, rfl, rfl⟩
  · exact .inr ⟨h, qs, ok, hp, .inl ⟨h1, rfl, rfl⟩⟩
  · exact absurd rfl hc
set_option maxRecDepth 100000 in
set_option maxHeartbeats 4000000 in
theorem iTell (w : World) (x : Bx) (no kind : Int) (h : Rd w x) :
    Calls Tryz.prog 18 #[.agg #[.slice (some ⟨x.ga, 0, none⟩) x.b.ac.length x.ca, .slice (some ⟨x.gi, 0, none⟩) x.b.ic.length x.ci, .slice (some ⟨x.gb, 0, none⟩) x.b.bs.length x.cb, .slice (some ⟨x.gl, 0, none⟩) x.b.ls.length x.cl, .slice (some ⟨x.gt, 0, none⟩) x.b.ts.length x.ct, .int .i64 x.b.lot], .int .i64 no, .int .i64 kind] w (AnsB (Ok x.b ∧ NoOk no ∧ (1 ≤ kind ∧ kind ≤ 2)) (IsIns x.b no kind) w) := by
  obtain ⟨b1, h1⟩ := says_of (NoOk no)
  have H1 := hide h1
  have S0 := hide (TW.start (no := no) (kind := kind) h)
  clear h1 h
  go_enter Tryz.func18, Tryz.ntmps18
  go_wp2_with fail
  have S1 := hide ((unhide S0).step (one_more _ (.cells #[.int .i64 no] 3)))
  refine (iNumbers _ (w.heap.size + 1 + 1 + 1 + 1) 1 1 [no] b1 rfl (by omega) (by simp) (at_new _ [no] _ (by simp) rfl) (all_one (unhide H1))).mono ?_
  rintro e w1 ⟨rfl, bb⟩
  have S2 := hide ((unhide S1).step bb)
  clear bb S1 S0
  obtain ⟨c0, c1, c2, c3, c4, c5⟩ := (unhide S2).c
  have cn := (unhide S2).n
  have ck := (unhide S2).k
  have hmf : ∀ (fn : Fn) (first cp : Array Value) (w : World), (Instr.makeFunc fn first cp).run Tryz.prog w = .ok (.func fn first cp) w := fun _ _ _ _ => rfl
  have HF := hide (show ∀ (told : Prop), Ok x.b → told → ∀ (u : World) (z : Bx), z.b = x.b → Var u w1.heap.size (w1.heap.size + 1) z → Ow u (w1.heap.size + 4) z → Below w1.heap.size w1 u → Calls Tryz.prog 70 (#[.pointer (some ⟨w1.heap.size + 1, 0, none⟩)] ++ #[.pointer (some ⟨w.heap.size + 1, 0, none⟩), .pointer (some ⟨w.heap.size + 1 + 1, 0, none⟩)]) u (Does (fun b' t c => t = 0 ∧ IsIns x.b no kind b' c) w1.heap.size (w1.heap.size + 1) u) from by
    intro told ok _ u z hz V O bb
    have l := (unhide S2).v.lt
    have q := IInstrAdd.iClosure u z w1.heap.size (w1.heap.size + 1) ⟨w.heap.size + 1, 0, none⟩ ⟨w.heap.size + 1 + 1, 0, none⟩ no kind ((bb.cell (p := ⟨w.heap.size + 1, 0, none⟩) (by simp; omega)).trans cn) ((bb.cell (p := ⟨w.heap.size + 1 + 1, 0, none⟩) (by simp; omega)).trans ck) (by rw [hz]; exact ok) V O (by omega)
    rw [hz] at q
    exact q)
  have four : Hid (Says b1 (NoOk no)) ∧ ((b1 = false ∧ Hid (Says false (NoOk no ∧ 1 ≤ kind ∧ kind ≤ 2))) ∨ (b1 = true ∧ (decide (1 ≤ kind) = false ∧ Hid (Says false (NoOk no ∧ 1 ≤ kind ∧ kind ≤ 2)))) ∨ (b1 = true ∧ (decide (1 ≤ kind) = true ∧ (decide (kind ≤ 2) = false ∧ Hid (Says false (NoOk no ∧ 1 ≤ kind ∧ kind ≤ 2))))) ∨ (b1 = true ∧ (decide (1 ≤ kind) = true ∧ (decide (kind ≤ 2) = true ∧ Hid (Says true (NoOk no ∧ 1 ≤ kind ∧ kind ≤ 2)))))) := by
    refine ⟨H1, ?_⟩
    cases b1
    · exact .inl ⟨rfl, says_no (fun hh => (unhide H1).no hh.1)⟩
    · by_cases q1 : 1 ≤ kind
      · by_cases q2 : kind ≤ 2
        · exact .inr (.inr (.inr ⟨rfl, decide_eq_true q1, decide_eq_true q2, says_yes ⟨(unhide H1).yes, q1, q2⟩⟩))
        · exact .inr (.inr (.inl ⟨rfl, decide_eq_true q1, decide_eq_false q2, says_no (fun hh => q2 hh.2.2)⟩))
      · exact .inr (.inl ⟨rfl, decide_eq_false q1, says_no (fun hh => q1 hh.2.1)⟩)
  clear H1
  obtain ⟨H1, ⟨rfl, HT⟩ | ⟨rfl, q1, HT⟩ | ⟨rfl, q1, q2, HT⟩ | ⟨rfl, q1, q2, HT⟩⟩ := four
  all_goals
    (clear H1
     go_wp2_with fail
     refine (ICmd.iCmd _ x _ (NoOk no ∧ 1 ≤ kind ∧ kind ≤ 2) 70 _ (fun b' t c => t = 0 ∧ IsIns x.b no kind b' c) (unhide S2).r (unhide HT) (fun _ _ => rfl) ((unhide HF) _)).mono ?_
     clear HF HT
     rintro e w3 (⟨N, rfl, bb⟩ | ⟨T, b', t, c, z, hP, hz, oz, bb⟩)
     · have S3 := hide ((unhide S2).step bb)
       have NN := hide (show ¬ (Ok x.b ∧ NoOk no ∧ (1 ≤ kind ∧ kind ≤ 2)) from fun hh => N ⟨hh.2, hh.1⟩)
       have l : w.heap.size + 1 + 1 + 1 < w1.heap.size := (unhide S2).v.lt.2
       have l3 : w.heap.size + 1 + 1 + 1 < w3.heap.size := (unhide S3).v.lt.2
       have l4 : w.heap.size + 1 + 1 + 1 ≠ w3.heap.size := by omega
       clear bb c0 c1 c2 c3 c4 c5 cn ck N
       have r0 := (unhide S3).v.c0
       have r1 := (unhide S3).v.c1
       have r2 := (unhide S3).v.c2
       have r3 := (unhide S3).v.c3
       have r4 := (unhide S3).v.c4
       have r5 := (unhide S3).v.c5
       have f0 := (unhide S3).v.free 0
       have f1 := (unhide S3).v.free 1
       have f2 := (unhide S3).v.free 2
       have f3 := (unhide S3).v.free 3
       have f4 := (unhide S3).v.free 4
       have f5 := (unhide S3).v.free 5
       go_wp2
       refine to_wb (fun W => Box W w.heap.size (w.heap.size + 1 + 1 + 1) (.slice none 0 0) (.slice none 0 0) (.slice none 0 0) (.slice none 0 0) (.slice none 0 0) (.int .i64 0) ∧ Below w.heap.size w W) ?_ ?_
       · exact ⟨box_six_alloc (unhide S3).v _ _ _ _ _ _ _, six_alloc (unhide S3).b (unhide S3).b.size (by omega) _ _ _ _ _ _ _⟩
       rintro W ⟨X, B⟩
       have g0 := X.c0
       have g1 := X.c1
       have g2 := X.c2
       have g3 := X.c3
       have g4 := X.c4
       have g5 := X.c5
       exact bodyPost_ret (v := .tuple #[.agg #[.slice none 0 0, .slice none 0 0, .slice none 0 0, .slice none 0 0, .slice none 0 0, .int .i64 0], .int .i64 1]) (by simp [results, Tryz.results18, go_sem, g0, g1, g2, g3, g4, g5]) rfl (.inl ⟨unhide NN, rfl, B⟩)
     · have S3 := hide ((unhide S2).step bb)
       have TT := hide (show Ok x.b ∧ NoOk no ∧ (1 ≤ kind ∧ kind ≤ 2) from ⟨T.2, T.1⟩)
       have l : w.heap.size + 1 + 1 + 1 < w1.heap.size := (unhide S2).v.lt.2
       have l3 : w.heap.size + 1 + 1 + 1 < w3.heap.size := (unhide S3).v.lt.2
       have l4 : w.heap.size + 1 + 1 + 1 ≠ w3.heap.size := by omega
       have OZ := hide oz
       have LZ := hide (ow_lo oz)
       have HP := hide hP
       clear bb c0 c1 c2 c3 c4 c5 cn ck T oz hP
       have r0 := (unhide S3).v.c0
       have r1 := (unhide S3).v.c1
       have r2 := (unhide S3).v.c2
       have r3 := (unhide S3).v.c3
       have r4 := (unhide S3).v.c4
       have r5 := (unhide S3).v.c5
       have f0 := (unhide S3).v.free 0
       have f1 := (unhide S3).v.free 1
       have f2 := (unhide S3).v.free 2
       have f3 := (unhide S3).v.free 3
       have f4 := (unhide S3).v.free 4
       have f5 := (unhide S3).v.free 5
       rcases hz with ⟨q, hb, rfl⟩ | ⟨q, hb, rfl⟩
       · have IS := hide (show IsIns x.b no kind z.b c from by rw [hb]; exact (unhide HP).2)
         clear q hb HP
         go_wp2
         refine to_wb (fun W => Box W w.heap.size (w.heap.size + 1 + 1 + 1) (.slice (some ⟨z.ga, 0, none⟩) z.b.ac.length z.ca) (.slice (some ⟨z.gi, 0, none⟩) z.b.ic.length z.ci) (.slice (some ⟨z.gb, 0, none⟩) z.b.bs.length z.cb) (.slice (some ⟨z.gl, 0, none⟩) z.b.ls.length z.cl) (.slice (some ⟨z.gt, 0, none⟩) z.b.ts.length z.ct) (.int .i64 z.b.lot) ∧ Below w.heap.size w W ∧ Ow W w.heap.size z) ?_ ?_
         · exact ⟨box_six_alloc (unhide S3).v _ _ _ _ _ _ _, six_alloc (unhide S3).b (unhide S3).b.size (by omega) _ _ _ _ _ _ _, ow_six_alloc (unhide OZ) (off_lo (unhide LZ) l) (unhide S2).b.size _ _ _ _ _ _ _⟩
         rintro W ⟨X, B, OW⟩
         have g0 := X.c0
         have g1 := X.c1
         have g2 := X.c2
         have g3 := X.c3
         have g4 := X.c4
         have g5 := X.c5
         exact bodyPost_ret (v := .tuple #[.agg #[.slice (some ⟨z.ga, 0, none⟩) z.b.ac.length z.ca, .slice (some ⟨z.gi, 0, none⟩) z.b.ic.length z.ci, .slice (some ⟨z.gb, 0, none⟩) z.b.bs.length z.cb, .slice (some ⟨z.gl, 0, none⟩) z.b.ls.length z.cl, .slice (some ⟨z.gt, 0, none⟩) z.b.ts.length z.ct, .int .i64 z.b.lot], .int .i64 c]) (by simp [results, Tryz.results18, go_sem, g0, g1, g2, g3, g4, g5]) rfl (.inr ⟨unhide TT, z, c, unhide IS, rfl, OW, B⟩)
       · have IS := hide (show IsIns x.b no kind z.b c from by rw [hb]; exact is_same (unhide HP).2 q)
         clear q hb HP
         go_wp2
         refine to_wb (fun W => Box W w.heap.size (w.heap.size + 1 + 1 + 1) (.slice (some ⟨z.ga, 0, none⟩) z.b.ac.length z.ca) (.slice (some ⟨z.gi, 0, none⟩) z.b.ic.length z.ci) (.slice (some ⟨z.gb, 0, none⟩) z.b.bs.length z.cb) (.slice (some ⟨z.gl, 0, none⟩) z.b.ls.length z.cl) (.slice (some ⟨z.gt, 0, none⟩) z.b.ts.length z.ct) (.int .i64 z.b.lot) ∧ Below w.heap.size w W ∧ Ow W w.heap.size z) ?_ ?_
         · exact ⟨box_six_alloc (unhide S3).v _ _ _ _ _ _ _, six_alloc (unhide S3).b (unhide S3).b.size (by omega) _ _ _ _ _ _ _, ow_six_alloc (unhide OZ) (off_lo (unhide LZ) l) (unhide S2).b.size _ _ _ _ _ _ _⟩
         rintro W ⟨X, B, OW⟩
         have g0 := X.c0
         have g1 := X.c1
         have g2 := X.c2
         have g3 := X.c3
         have g4 := X.c4
         have g5 := X.c5
         exact bodyPost_ret (v := .tuple #[.agg #[.slice (some ⟨z.ga, 0, none⟩) z.b.ac.length z.ca, .slice (some ⟨z.gi, 0, none⟩) z.b.ic.length z.ci, .slice (some ⟨z.gb, 0, none⟩) z.b.bs.length z.cb, .slice (some ⟨z.gl, 0, none⟩) z.b.ls.length z.cl, .slice (some ⟨z.gt, 0, none⟩) z.b.ts.length z.ct, .int .i64 z.b.lot], .int .i64 c]) (by simp [results, Tryz.results18, go_sem, g0, g1, g2, g3, g4, g5]) rfl (.inr ⟨unhide TT, z, c, unhide IS, rfl, OW, B⟩))
end Go.Proofs.YtlbdfaahcmlddaaGreat.IInstrTell
