/- Texts of one proof, one behind the other: IDk14, PTab14, ICom14, ISz14, IAppend14, ILate15, ISync14, IAdd15, IRd14, IRd11, EqS11, StepB11, IUnseal11, ISeg15. -/
import Derived.Test.YtcajdiopgaoicaaRows
import Derived.Test.YtcajdiopgaoicaaSG1
import Derived.Test.YtcajdiopgaoicaaSG2
import Derived.Test.YtcajdiopgaoicaaSG3
import Derived.Test.YtcajdiopgaoicaaSG4
import Derived.Test.YtcajdiopgaoicaaSG5
import Derived.Test.YtcajdiopgaoicaaSG6
import Derived.Test.YtcajdiopgaoicaaSG7
import Derived.Test.YtcajdiopgaoicaaSG8
import Derived.Test.YtcajdiopgaoicaaSG9
import Derived.Deep.RegionHeld3
import Derived.Lib.EndianBits
import Derived.ChangeKeysEq
import Derived.Laws.Cover3
import Derived.WalkMore
import Derived.ScopeJumps
set_option linter.unusedVariables false
set_option linter.unusedSimpArgs false
namespace Go.Proofs.Ytcajdiopgaoicaa.IDk14
open Go.ChangeShapes Go.WideShapes Go.ChangeAt Go.RowKit Fil14 DiskH14 DkH14 SDk14 SOk14 SRd14 App14 SLess14 SCopy14 SRef14 SCom14 SPut14 TabF14
open DkH14 (row_step)
theorem pt_step {B O : Nat} {W wr wz : World} {room : Int} {L : List TF} {a : Option Addr} {m c : Nat} (h : Pt B O W wr room L a m c) (k : Below wr.heap.size wr wz) : Pt B O W wz room L a m c :=
  ⟨⟨k.os.trans h.gr.os, k.tape.trans h.gr.tape, k.output.trans h.gr.output, Nat.le_trans h.gr.size k.size, fun i hi hr => (k.block i (Nat.lt_of_lt_of_le hi h.gr.size)).trans (h.gr.block i hi hr)⟩, h.bx.below k h.bx.lt.2, row_step h.ow k⟩
set_option maxRecDepth 100000 in
set_option maxHeartbeats 4000000 in
theorem iDisk (w : World) (B n : Nat) (f : Int → Option TF) (room : Int) (hT : Tf w B n f) :
    Calls Try.prog 43 #[.map (some B), .int .i64 room] w fun e w' => ∃ y : Dx, y.room = room ∧ y.ps = rowF f ∧ e = .returned (.agg #[.int .i64 y.room, .slice y.a y.ps.length y.c]) ∧ OwD w' w.heap.size y ∧ Below w.heap.size w w' := by
  have F : ∀ W1, W1 = w.alloc (.cells #[.int .i64 0, .slice none 0 0] 26) → ∀ W2, W2 = W1.alloc (.cells #[.int .i64 room, .slice none 0 0] 26) →
      Bc W2 w.heap.size w.heap.size (.int .i64 0) (.slice none 0 0) ∧ Bc W2 w.heap.size (w.heap.size + 1) (.int .i64 room) (.slice none 0 0) ∧ Tf W2 B n f ∧ Below w.heap.size w W2 ∧ W2.heap.size = w.heap.size + 2 := by
    intro W1 h1 W2 h2
    have s1 : W1.heap.size = w.heap.size + 1 := by rw [h1]; simp
    have s2 : W2.heap.size = w.heap.size + 2 := by rw [h2]; simp [s1]
    have b1 : Below w.heap.size w W1 := by rw [h1]; exact one_more _ _
    have b2 : Below W1.heap.size W1 W2 := by rw [h2]; exact one_more _ _
    have R1 : Bc W1 w.heap.size w.heap.size (.int .i64 0) (.slice none 0 0) := by rw [h1]; exact Bc.made _ _ (Nat.le_refl _) rfl
    have O1 : Bc W2 w.heap.size (w.heap.size + 1) (.int .i64 room) (.slice none 0 0) := by rw [h2]; exact Bc.made _ _ (by omega) s1.symm
    exact ⟨R1.below b2 (by omega), O1, (hT.below b1).below b2, b1.trans (b2.mono b1.size), s2⟩
  have G0 := hide (F _ rfl _ rfl)
  have hB := hT.lt
  clear F hT
  go_enter Try.func43, Try.ntmps43
  go_wp2
  generalize (w.alloc (.cells #[.int .i64 0, .slice none 0 0] 26)).alloc (.cells #[.int .i64 room, .slice none 0 0] 26) = W at *
  obtain ⟨RB, OB, TW, BW, s3⟩ := unhide G0
  have HRB := hide RB
  have HTW := hide TW
  have HBW := hide BW
  have hO : w.heap.size + 1 < W.heap.size := by omega
  have hb : W.heap.size = w.heap.size + 2 := s3
  clear G0 RB TW BW
  go_loopw [11] (fun i wr => ∃ (k m c : Nat) (a : Option Addr), i = .int .i64 k ∧ k ≤ 22 ∧ m ≤ k ∧ Hid (Pt w.heap.size (w.heap.size + 1) W wr room (rowN f k) a m c)) (fun i _ => 22 - (intOf i).toNat)
  case atStart => exact ⟨0, 0, 0, none, rfl, by omega, by omega, hide ⟨World.grownBy.refl _ _, OB, ⟨rfl, .inl ⟨rfl, rfl⟩⟩⟩⟩
  case round =>
    clear OB
    obtain ⟨k, m, c, a, rfl, hk, hm, HPt⟩ := hrel
    have bo := (unhide HPt).bx.c1
    have lo := (unhide HPt).bx.lt.2
    have vs := (unhide HPt).gr.size
    by_cases t : k < 22
    · have kt : (k : Int) < 22 := by omega
      have WF : Wf (k : Int) := wf_low ⟨by omega, by omega⟩
      have HT := hide ((unhide HTW).kept (unhide HPt).gr (by simp; omega))
      have NX := hide (show rowN f (k + 1) = rowN f k ++ (f k).toList from rfl)
      cases hf : f k with
      | none =>
        have HP : (f k).getD z0 = (0, ByteArray.empty, ByteArray.empty) := by rw [hf]; rfl
        have HI : (f k).isSome = false := by rw [hf]; rfl
        rw [hf] at NX
        have P1 := hide (pt_step (unhide HPt) (one_more wr (.cells #[.int .i64 0, .string ByteArray.empty, .string ByteArray.empty] 54)))
        clear hf HPt bo
        go_wp2_with (first | (at_lookup; refine wp_have _ rfl _ _ rfl B n f rfl (unhide HT) k rfl WF _ false HP HI ?_) | go_in)
        go_roundw
        case rel => exact ⟨k + 1, m, c, a, by go_num, by omega, by omega, by rw [unhide NX, Option.toList_none, List.append_nil]; exact P1⟩
        case measure => simp [intOf]; omega
      | some p =>
        obtain ⟨p0, p1, p2⟩ := p
        have HP : (f k).getD z0 = (p0, p1, p2) := by rw [hf]; rfl
        have HI : (f k).isSome = true := by rw [hf]; rfl
        rw [hf] at NX
        clear hf
        have P1 := hide (pt_step (unhide HPt) (one_more wr (.cells #[.int .i64 p0, .string p1, .string p2] 54)))
        have SA : (wr.alloc (.cells #[.int .i64 p0, .string p1, .string p2] 54)).heap.size = wr.heap.size + 1 := by simp
        have q0 : (wr.alloc (.cells #[.int .i64 p0, .string p1, .string p2] 54)).cell? ⟨wr.heap.size, 0, none⟩ = some (.int .i64 p0) := by simp [go_sem]
        have q1 : (wr.alloc (.cells #[.int .i64 p0, .string p1, .string p2] 54)).cell? ⟨wr.heap.size, 1, none⟩ = some (.string p1) := by simp [go_sem]
        have q2 : (wr.alloc (.cells #[.int .i64 p0, .string p1, .string p2] 54)).cell? ⟨wr.heap.size, 2, none⟩ = some (.string p2) := by simp [go_sem]
        have LC := hide (show ∀ j v, [Value.int .i64 p0, .string p1, .string p2][j]? = some v → ((wr.alloc (.cells #[.int .i64 p0, .string p1, .string p2] 54)).alloc (.cells #[.int .i64 p0, .string p1, .string p2] 54)).cell? ⟨wr.heap.size + 1, j, none⟩ = some v by
          have h := litm (wr.alloc (.cells #[.int .i64 p0, .string p1, .string p2] 54)) [.int .i64 p0, .string p1, .string p2] 54 _ rfl
          rw [SA] at h
          exact h)
        clear SA
        have bo1 := (unhide P1).bx.c1
        have vs1 := hide (unhide P1).gr.size
        have lo1 := (unhide P1).bx.lt.2
        clear HPt bo
        go_wp2_with (first | (at_lookup; refine wp_have _ rfl _ _ rfl B n f rfl (unhide HT) k rfl WF _ true HP HI ?_) | (at_builtin; refine wp_app _ rfl _ _ rfl W.heap.size (.slice a m c) m (flatF (rowN f k)) (wr.heap.size + 1) [.int .i64 p0, .string p1, .string p2] rfl rfl (row_step (unhide P1).ow (one_more _ (.cells #[.int .i64 p0, .string p1, .string p2] 54))) rfl (unhide LC) (by simp [Value.oneCell']) (by omega) (Nat.le_trans (unhide vs1) (by simp)) ?_; intro g8 c8 u8 o8 gr8; have PA := (unhide P1).app (p := (p0, p1, p2)) hO (one_more _ (.cells #[.int .i64 p0, .string p1, .string p2] 54)) gr8 o8; have bx8 := PA.1; have b80 := bx8.c1; have b81 := bx8.free 1; have P8 := hide PA.2; clear o8 gr8 PA bx8 bo1) | go_in)
        go_roundw
        case rel => exact ⟨k + 1, m + 1, c8, some ⟨g8, 0, none⟩, by go_num, by omega, by omega, by rw [unhide NX]; exact P8⟩
        case measure => simp [intOf]; omega
    · have e : k = 22 := by omega
      subst e
      have B0 := (unhide HPt).bx.c0
      have Rk := hide ((unhide HRB).kept (unhide HPt).gr (by simp))
      have e0 := (unhide Rk).free 0
      have e1 := (unhide Rk).free 1
      have r0 := (unhide Rk).c0
      have r1 := (unhide Rk).c1
      have LM := hide (show (rowN f 22).length = m by
        have := (unhide HPt).ow.1
        rw [flatF_len] at this
        omega)
      have t0 := (unhide Rk).set0 (.int .i64 room)
      have t1 := bc_set1 t0.1 (.slice a m c)
      have ST := hide (grow_grow t0.2 t1.2)
      have BB := hide (grow_low (unhide HBW) (unhide HPt).gr (by omega))
      clear t0 t1
      go_wp2
      refine bodyPost_ret (v := .agg #[.int .i64 room, .slice a m c]) (by simp [results, Try.results43, go_sem, r0, r1]) rfl ⟨⟨room, a, c, rowN f 22⟩, rfl, rfl, by simp [unhide LM], ?_, ?_⟩
      · unfold OwD
        simp only [unhide LM]
        exact row_base (row_kept (unhide HPt).ow (unhide ST) (by omega)) (by omega)
      · exact grow_low (unhide BB) (unhide ST) (by omega)
end Go.Proofs.Ytcajdiopgaoicaa.IDk14
namespace Go.Proofs.Ytcajdiopgaoicaa.PTab14
open Fil14 DiskH14 SDk14 SOk14 SRd14 SLess14 SPut14 Pure14 TabF14
/-- A table tells just the files of a list. -/
structure Tl (f : Int → Option TF) (ps : List TF) : Prop where
  asc : Asc ps
  nam : Named ps
  iff : ∀ k q, f k = some q ↔ q ∈ ps ∧ q.1 = k
theorem tabN_hit {ps : List TF} (h : Asc ps) : ∀ k, k ≤ ps.length → ∀ i, i < k → tabN ps k (elF ps i).1 = some (elF ps i)
  | 0 => fun _ i hi => absurd hi (by omega)
  | k + 1 => fun hk i hi => by
    unfold tabN upd
    by_cases e : i = k
    · subst e
      rw [if_pos rfl]
    · have := asc_lt h (i := i) (j := k) (by omega) (by omega)
      rw [if_neg (by omega)]
      exact tabN_hit h k (by omega) i (by omega)
theorem tabN_in {ps : List TF} : ∀ k, k ≤ ps.length → ∀ j q, tabN ps k j = some q → q ∈ ps ∧ q.1 = j
  | 0 => fun _ j q e => by simp [tabN] at e
  | k + 1 => fun hk j q e => by
    unfold tabN upd at e
    by_cases c : j = (elF ps k).1
    · rw [if_pos c] at e
      have e' : elF ps k = q := by simpa using e
      rw [← e']
      exact ⟨elF_mem (by omega), c.symm⟩
    · rw [if_neg c] at e
      exact tabN_in k (by omega) j q e
theorem tl_tab {ps : List TF} (h : Asc ps) (hn : Named ps) : Tl (tabOf ps) ps := by
  refine ⟨h, hn, fun k q => ⟨fun e => tabN_in _ (Nat.le_refl _) k q e, fun ⟨m, e⟩ => ?_⟩⟩
  obtain ⟨i, hi, rfl⟩ := mem_elF m
  rw [← e]
  exact tabN_hit h _ (Nat.le_refl _) i hi
theorem tl_put {f : Int → Option TF} {ps : List TF} (h : Tl f ps) (p : TF) (hp : 0 ≤ p.1 ∧ p.1 ≤ 21) : Tl (upd f p.1 (some p)) (putF ps p) := by
  refine ⟨put_asc p h.asc, put_named h.asc h.nam hp, fun k q => ?_⟩
  rw [put_mem h.asc]
  unfold upd
  by_cases c : k = p.1
  · rw [if_pos c]
    constructor
    · intro e
      have e' : p = q := by simpa using e
      exact ⟨.inl e'.symm, by rw [← e', c]⟩
    · rintro ⟨e | ⟨_, e⟩, e2⟩
      · rw [e]
      · exact absurd (e2.trans c) e
  · rw [if_neg c, h.iff]
    constructor
    · rintro ⟨a, b⟩
      exact ⟨.inr ⟨a, by rw [b]; exact c⟩, b⟩
    · rintro ⟨e | ⟨a, _⟩, b⟩
      · exact absurd (by rw [← b, e]) c
      · exact ⟨a, b⟩
theorem row_mem {f : Int → Option TF} (p : TF) : ∀ n, p ∈ rowN f n ↔ ∃ k : Nat, k < n ∧ f k = some p
  | 0 => by simp [rowN]
  | n + 1 => by
    rw [rowN, List.mem_append, row_mem p n]
    constructor
    · rintro (⟨k, a, b⟩ | h)
      · exact ⟨k, by omega, b⟩
      · exact ⟨n, by omega, by simpa using h⟩
    · rintro ⟨k, a, b⟩
      by_cases e : k = n
      · subst e
        exact .inr (by simpa using b)
      · exact .inl ⟨k, by omega, b⟩
theorem row_asc {f : Int → Option TF} (h : ∀ k q, f k = some q → q.1 = k) : ∀ n, Asc (rowN f n)
  | 0 => by simp [rowN, Asc]
  | n + 1 => by
    unfold Asc rowN
    rw [List.pairwise_append]
    refine ⟨row_asc h n, ?_, fun p hp q hq => ?_⟩
    · cases f n <;> simp
    · obtain ⟨k, a, b⟩ := (row_mem p n).1 hp
      have e1 := h _ _ b
      have e2 := h n q (by simpa using hq)
      omega
theorem asc_ext : ∀ {l r : List TF}, Asc l → Asc r → (∀ p, p ∈ l ↔ p ∈ r) → l = r
  | [], [] => fun _ _ _ => rfl
  | [], b :: r => fun _ _ h => absurd ((h b).2 (by simp)) (by simp)
  | a :: l, [] => fun _ _ h => absurd ((h a).1 (by simp)) (by simp)
  | a :: l, b :: r => fun ha hb h => by
    unfold Asc at ha hb
    rw [List.pairwise_cons] at ha hb
    have e : a = b := by
      have h1 := (h a).1 (by simp)
      have h2 := (h b).2 (by simp)
      simp only [List.mem_cons] at h1 h2
      rcases h1 with h1 | h1
      · exact h1
      · rcases h2 with h2 | h2
        · exact h2.symm
        · have := ha.1 b h2
          have := hb.1 a h1
          omega
    subst e
    rw [asc_ext ha.2 hb.2 (fun p => ?_)]
    have := h p
    simp only [List.mem_cons] at this
    constructor
    · intro m
      rcases this.1 (.inr m) with e | e
      · subst e
        have := ha.1 p m
        omega
      · exact e
    · intro m
      rcases this.2 (.inr m) with e | e
      · subst e
        have := hb.1 p m
        omega
      · exact e
theorem tl_row {f : Int → Option TF} {ps : List TF} (h : Tl f ps) : rowF f = ps := by
  refine asc_ext (row_asc (fun k q e => ((h.iff k q).1 e).2) 22) h.asc (fun p => ?_)
  unfold rowF at *
  rw [row_mem]
  constructor
  · rintro ⟨k, _, e⟩
    exact ((h.iff k p).1 e).1
  · intro m
    have n := h.nam p m
    exact ⟨p.1.toNat, by omega, (h.iff _ _).2 ⟨m, by omega⟩⟩
/-- A file that is not there. -/
theorem tl_no {f : Int → Option TF} {ps : List TF} (h : Tl f ps) {nm : Int} (e : findF ps nm < 0) : f nm = none := by
  cases q : f nm with
  | none => rfl
  | some p =>
    have := (h.iff nm p).1 q
    exact absurd this.2 (find_neg e p this.1)
/-- A file that is there. -/
theorem tl_yes {f : Int → Option TF} {ps : List TF} (h : Tl f ps) {nm : Int} {k : Nat} (hk : k < ps.length) (e : (elF ps k).1 = nm) : f nm = some (elF ps k) := (h.iff _ _).2 ⟨elF_mem hk, e⟩
theorem tl_ok {room : Int} {ps : List TF} (h : OkD room ps) : Tl (tabOf ps) ps := tl_tab (asc_of h).1 (asc_of h).2
theorem wf_names {room : Int} {ps : List TF} (h : OkD room ps) : ∀ i, i < ps.length → Wf (elF ps i).1 := fun i hi => wf_ok (h.2.2.2 i hi).1
theorem el_size {ps : List TF} (hz : sumZ ps ≤ 1048576) {k : Nat} (hk : k < ps.length) : (elF ps k).2.1.size + (elF ps k).2.2.size ≤ 1048576 := by
  have := sumZ_next hk
  have := sumZ_le ps (k + 1)
  omega
end Go.Proofs.Ytcajdiopgaoicaa.PTab14
namespace Go.Proofs.Ytcajdiopgaoicaa.ICom14
open Go.ChangeShapes Go.WideShapes Go.ChangeAt Go.RowKit Fil14 DiskH14 DkH14 SDk14 SOk14 SRd14 SLess14 SCom14 TabF14 ITb14
theorem iOkB (w : World) (x : Dx) (b : Bool) (hr : RdD w x) (hz : sumZ x.ps ≤ 1048576) (h : decide (OkD x.room x.ps) = b) : Calls Try.prog 22 #[.agg #[.int .i64 x.room, .slice x.a x.ps.length x.c]] w fun e w' => e = .returned (.bool b) ∧ Below w.heap.size w w' := by
  rw [← h]
  exact IOk14.iDiskOk w x hr hz
/-- A world in which a call has its disk in a box, its answer in the next one and a table of files behind them. -/
structure St (w u : World) (x : Dx) (B n : Nat) (f : Int → Option TF) : Prop where
  d : Wd w u x
  r : Bc u w.heap.size (w.heap.size + 1) (.int .i64 0) (.slice none 0 0)
  t : Tf u B n f
  b : w.heap.size + 2 ≤ B
  xa : ∀ g, x.a = some ⟨g, 0, none⟩ → g < w.heap.size
theorem St.step {w u u' : World} {x : Dx} {B n : Nat} {f : Int → Option TF} (h : St w u x B n f) (k : Below u.heap.size u u') : St w u' x B n f :=
  ⟨h.d.step k, h.r.below k h.r.lt.2, h.t.below k, h.b, h.xa⟩
theorem St.turn {w u u' : World} {x : Dx} {B n n' : Nat} {f f' : Int → Option TF} (h : St w u x B n f) (t : Tf u' B n' f') (g : u.grownBy u' (some B)) : St w u' x B n' f' := by
  have hb := h.b
  exact ⟨wd_grown h.d g (by omega) (fun k e => by have := h.xa k e; omega), h.r.kept g (by simp; omega), t, hb, h.xa⟩
theorem at_bad {room : Int} {ps : List TF} {nm : Int} (h : ¬ (OkD room ps ∧ okN nm = true)) : atD room ps nm = (-1, 1) := by
  unfold atD
  rw [if_neg h]
theorem at_none {room : Int} {ps : List TF} {nm : Int} (h1 : OkD room ps) (h2 : okN nm = true) (h : findF ps nm < 0) : atD room ps nm = (findF ps nm, 2) := by
  unfold atD
  rw [if_pos ⟨h1, h2⟩, if_pos h]
theorem at_yes {room : Int} {ps : List TF} {nm : Int} {k : Nat} (h1 : OkD room ps) (h2 : okN nm = true) (h : findF ps nm = k) : atD room ps nm = ((k : Int), 0) := by
  unfold atD
  rw [if_pos ⟨h1, h2⟩, h, if_neg (by omega)]
end Go.Proofs.Ytcajdiopgaoicaa.ICom14
namespace Go.Proofs.Ytcajdiopgaoicaa.ISz14
open Go.ChangeShapes Go.WideShapes Go.ChangeAt Go.RowKit Fil14 DiskH14 DkH14 SDk14 SOk14 IFile14
set_option maxRecDepth 100000 in
set_option maxHeartbeats 4000000 in
theorem iSizeD (w : World) (x : Dx) (hr : RdD w x) (hz : sumZ x.ps ≤ 1048576) :
    Calls Try.prog 64 #[.agg #[.int .i64 x.room, .slice x.a x.ps.length x.c]] w fun e w' => e = .returned (.int .i64 (sumZ x.ps)) ∧ Below w.heap.size w w' := by
  have W0 := hide (Wd.made hr 26)
  have h20 := hr.n
  clear hr
  go_enter Try.func64, Try.ntmps64
  go_wp2
  go_loopw [3, 9] (fun n i wr => ∃ (k : Nat) (y : Int), k ≤ x.ps.length ∧ i = .int .i64 k ∧ n = .int .i64 y ∧ 0 ≤ y ∧ y ≤ 1048576 ∧ Hid (y = sumZ (x.ps.take k)) ∧ Hid (Wd w wr x)) (fun _ i _ => x.ps.length - (intOf i).toNat)
  case atStart => exact ⟨0, 0, by omega, rfl, rfl, by omega, by omega, hide (by simp [sumZ]), W0⟩
  case round =>
    clear W0
    obtain ⟨k, y, hk, rfl, rfl, y0, y1, HY, HW⟩ := hrel
    by_cases t : k < x.ps.length
    · have kt : (k : Int) < x.ps.length := by omega
      have NX := sumZ_next t
      have LE := sumZ_le x.ps (k + 1)
      have YE := unhide HY
      obtain ⟨g, ea, lg, e0, e1, e2⟩ := cells_of (unhide HW).r t
      have lt := (unhide HW).lt
      have IX := SCom14.ixF x.c ea t
      generalize (elF x.ps k).1 = z0 at *
      generalize (elF x.ps k).2.1 = z1 at *
      generalize (elF x.ps k).2.2 = z2 at *
      have b1 : z1.size + z2.size ≤ 1048576 := by omega
      have a2 : wrap64 (y + ((z1.size : Int) + z2.size)) = y + ((z1.size : Int) + z2.size) := by rw [wrap64]; omega
      have NY := hide (show 0 ≤ y + ((z1.size : Int) + z2.size) ∧ y + ((z1.size : Int) + z2.size) ≤ 1048576 ∧ y + ((z1.size : Int) + z2.size) = sumZ (x.ps.take (k + 1)) by omega)
      clear NX LE YE HY ea
      have OB := hide (one_more wr (.cells #[.int .i64 z0, .string z1, .string z2] 54))
      go_wp2_with fail
      refine (iSizeF _ z0 z1 z2 b1).mono ?_
      rintro e w2 ⟨rfl, bb⟩
      have HW2 := hide (((unhide HW).step (unhide OB)).step bb)
      clear bb OB HW e0 e1 e2 IX
      go_wp2
      go_roundw
      case rel => exact ⟨k + 1, y + ((z1.size : Int) + z2.size), by omega, by go_num, rfl, (unhide NY).1, (unhide NY).2.1, hide (unhide NY).2.2, HW2⟩
      case measure => simp [intOf]; omega
    · have e : k = x.ps.length := by omega
      have E := hide (show y = sumZ x.ps by have := unhide HY; rw [e, List.take_length] at this; exact this)
      have kt : ¬ (k : Int) < x.ps.length := by omega
      clear HY
      subst e
      go_wp2
      go_ret
      exact ⟨congrArg (fun z => Ending.returned (.int .i64 z)) (unhide E), (unhide HW).b⟩
end Go.Proofs.Ytcajdiopgaoicaa.ISz14
namespace Go.Proofs.Ytcajdiopgaoicaa.IAppend14
open Go.ChangeShapes Go.WideShapes Go.ChangeAt Go.RowKit Fil14 DiskH14 DkH14 SDk14 SOk14 SRd14 App14 SLess14 SCopy14 SRef14 SCom14 SPut14 SAppend14 TabF14 PTab14 IFile14 ITb14 ICp14 IDk14 ICom14 ISz14
abbrev oM0 : Oper := { dst := some 19, op := Go.Op.move (Go.Operand.tmp 2), type := 9, pos := "l14_disk.go:54", after := #[], guard := none }
abbrev oM1 : Oper := { dst := some 20, op := Go.Op.call { callee := Go.Callee.builtin Go.Builtin.len, args := #[Go.Operand.tmp 19], argTypes := #[9] }, type := 3, pos := "l14_disk.go:54", after := #[{ on := 0, ground := Go.Ground.data }], guard := none }
abbrev oM2 : Oper := { dst := some 21, op := Go.Op.fieldAddr 26 (Go.Operand.tmp 3) 0, type := 0, pos := "l14_disk.go:54", after := #[], guard := none }
abbrev oM3 : Oper := { dst := some 22, op := Go.Op.load 3 (Go.Operand.tmp 21), type := 3, pos := "l14_disk.go:54", after := #[{ on := 2, ground := Go.Ground.data }], guard := none }
abbrev oM4 : Oper := { dst := some 23, op := Go.Op.load 26 (Go.Operand.tmp 3), type := 26, pos := "l14_disk.go:54", after := #[], guard := none }
abbrev oM5 : Oper := { dst := some 24, op := Go.Op.call { callee := Go.Callee.value (Go.Operand.func 64), args := #[Go.Operand.tmp 23], argTypes := #[26] }, type := 3, pos := "l14_disk.go:54", after := #[{ on := 4, ground := Go.Ground.data }], guard := none }
abbrev oM6 : Oper := { dst := some 25, op := Go.Op.binOp Go.BinOp.sub 3 (Go.Operand.tmp 22) (Go.Operand.tmp 24) 3, type := 3, pos := "l14_disk.go:54", after := #[{ on := 3, ground := Go.Ground.data }, { on := 5, ground := Go.Ground.data }], guard := none }
abbrev oM7 : Oper := { dst := some 26, op := Go.Op.binOp Go.BinOp.gtr 3 (Go.Operand.tmp 20) (Go.Operand.tmp 25) 3, type := 4, pos := "l14_disk.go:54", after := #[{ on := 1, ground := Go.Ground.data }, { on := 6, ground := Go.Ground.data }], guard := none }
set_option maxRecDepth 100000 in
set_option maxHeartbeats 4000000 in
theorem iDiskAppend (w : World) (x : Dx) (nm : Int) (s : ByteArray) (hr : RdD w x) (hz : sumZ x.ps ≤ 1048576) (hs : s.size ≤ 9223372036854775807) : Calls Try.prog 34 #[.agg #[.int .i64 x.room, .slice x.a x.ps.length x.c], .int .i64 nm, .string s] w (ToldD (appendD x.room x.ps nm s) w) := by
  have G0 := hide (begunD hr)
  have s2 : ((w.alloc (.cells #[.int .i64 x.room, .slice x.a x.ps.length x.c] 26)).alloc (.cells #[.int .i64 0, .slice none 0 0] 26)).heap.size = w.heap.size + 2 := by simp
  have OK0 := hide (fun b h => iOkB _ x b (unhide G0).1.r hz h)
  have N_nm := hide (fun u b h => iNameB u nm b h)
  have XA := hide (fun g e => (hr.r g e).1)
  have h20 := hr.n
  clear hr
  by_cases ok : OkD x.room x.ps
  case neg =>
    have E := hide (show appendD x.room x.ps nm s = ((0, []), 1) by unfold appendD; rw [if_neg (fun h => ok h.1)])
    generalize appendD x.room x.ps nm s = rr at *
    have OKD := hide (decide_eq_false ok)
    clear ok
    go_enter Try.func34, Try.ntmps34
    go_wp2_with fail
    refine ((unhide OK0) false (unhide OKD)).mono ?_
    rintro e u ⟨rfl, b1⟩
    have R2 := hide ((unhide G0).2.below b1 (by omega))
    have WU := hide ((unhide G0).1.step b1)
    have us := b1.size
    rw [s2] at us
    clear b1 G0 OK0 s2
    have c0 := (unhide WU).c0
    have c1 := (unhide WU).c1
    have lt := (unhide WU).lt
    have EN := hide (endedD (y := ⟨0, none, 0, []⟩) (base0 := w.heap.size + 2) (unhide WU).b (unhide R2) ⟨rfl, .inl ⟨rfl, rfl⟩⟩ (by omega))
    have f0 := (unhide R2).free 0
    have f1 := (unhide R2).free 1
    have r0 := (unhide R2).c0
    have r1 := (unhide R2).c1
    clear c0 c1 lt
    go_wp2
    refine bodyPost_ret (v := .tuple #[.agg #[.int .i64 0, .slice none 0 0], .int .i64 1]) (by simp [results, Try.results34, go_sem, r0, r1]) rfl ?_
    rw [unhide E]
    exact ⟨⟨0, none, 0, []⟩, rfl, rfl, (unhide EN).1, (unhide EN).2⟩
  have OKD := hide (decide_eq_true ok)
  have OK := hide ok
  by_cases nk : okN nm = true
  case neg =>
    have E := hide (show appendD x.room x.ps nm s = ((0, []), 1) by unfold appendD; rw [if_neg (fun h => nk h.2)])
    generalize appendD x.room x.ps nm s = rr at *
    have NK := hide (show okN nm = false by simpa using nk)
    clear ok nk
    go_enter Try.func34, Try.ntmps34
    go_wp2_with fail
    refine ((unhide OK0) true (unhide OKD)).mono ?_
    rintro e u ⟨rfl, b1⟩
    have R2 := hide ((unhide G0).2.below b1 (by omega))
    have WU := hide ((unhide G0).1.step b1)
    have us := b1.size
    rw [s2] at us
    clear b1 G0 OK0 s2
    have c0 := (unhide WU).c0
    have c1 := (unhide WU).c1
    have lt := (unhide WU).lt
    go_wp2_with fail
    refine ((unhide N_nm) _ false (unhide NK)).mono ?_
    rintro e u ⟨rfl, rfl⟩
    have EN := hide (endedD (y := ⟨0, none, 0, []⟩) (base0 := w.heap.size + 2) (unhide WU).b (unhide R2) ⟨rfl, .inl ⟨rfl, rfl⟩⟩ (by omega))
    have f0 := (unhide R2).free 0
    have f1 := (unhide R2).free 1
    have r0 := (unhide R2).c0
    have r1 := (unhide R2).c1
    clear c0 c1 lt
    go_wp2
    refine bodyPost_ret (v := .tuple #[.agg #[.int .i64 0, .slice none 0 0], .int .i64 1]) (by simp [results, Try.results34, go_sem, r0, r1]) rfl ?_
    rw [unhide E]
    exact ⟨⟨0, none, 0, []⟩, rfl, rfl, (unhide EN).1, (unhide EN).2⟩
  have NK := hide nk
  have WF := hide (wf_ok nk)
  have TL := hide (tl_ok ok)
  have RE := hide (show appendD x.room x.ps nm s = if x.room - sumZ x.ps < s.size then ((x.room, x.ps), 3) else ((x.room, putF x.ps (appF x.ps nm s)), 0) by unfold appendD; rw [if_pos ⟨ok, nk⟩])
  generalize appendD x.room x.ps nm s = rr at *
  have z60 := ok.1
  have zr := ok.2.2.1
  obtain ⟨p, HP, EA, SP⟩ : ∃ p : TF, (tabOf x.ps nm).getD z0 = p ∧ appF x.ps nm s = (nm, p.2.1, p.2.2 ++ s) ∧ p.2.1.size + p.2.2.size ≤ 1048576 := by
    unfold appF
    by_cases q : findF x.ps nm < 0
    · have FN := tl_no (unhide TL) q
      refine ⟨z0, by rw [FN]; rfl, ?_, by simp⟩
      rw [if_neg (by omega)]
      show (nm, ByteArray.empty, s) = (nm, ByteArray.empty, ByteArray.empty ++ s)
      rw [ByteArray.empty_append]
    · obtain ⟨k, ek, kl, en⟩ := findF_in (ps := x.ps) (nm := nm) (by omega)
      have FY := tl_yes (unhide TL) kl en
      refine ⟨elF x.ps k, by rw [FY]; rfl, ?_, el_size hz kl⟩
      rw [if_pos (by omega), ek, Int.toNat_natCast, en]
  have ROW := hide (tl_row (tl_put (unhide TL) (appF x.ps nm s) (by rw [EA]; exact Pure14.ok_named.1 nk)))
  rw [EA] at ROW RE
  obtain ⟨p0, p1, p2⟩ := p
  have HP := hide HP
  simp only at ROW RE SP
  obtain ⟨b, hb⟩ : ∃ b, decide ((s.size : Int) > x.room - sumZ x.ps) = b := ⟨_, rfl⟩
  have HB := hide hb
  have wr : wrap64 (x.room - sumZ x.ps) = x.room - sumZ x.ps := by rw [wrap64]; omega
  have wr2 : IntKind.i64.wrap (x.room - sumZ x.ps) = x.room - sumZ x.ps := by rw [IntKind.wrap_i64]; omega
  clear EA TL ok nk
  go_enter Try.func34, Try.ntmps34
  go_wp2_with fail
  refine ((unhide OK0) true (unhide OKD)).mono ?_
  rintro e u ⟨rfl, b1⟩
  have R2 := hide ((unhide G0).2.below b1 (by omega))
  have WU := hide ((unhide G0).1.step b1)
  have us := b1.size
  rw [s2] at us
  clear b1 G0 OK0 s2
  have c0 := (unhide WU).c0
  have c1 := (unhide WU).c1
  have lt := (unhide WU).lt
  go_wp2_with fail
  refine ((unhide N_nm) _ true (unhide NK)).mono ?_
  rintro e u ⟨rfl, rfl⟩
  have K0 : u.cell? ⟨w.heap.size, 0, none⟩ = some (.int .i64 x.room) ∧ u.cell? ⟨w.heap.size, 1, none⟩ = some (.slice x.a x.ps.length x.c) := ⟨c0, c1⟩
  go_wp2_with fail
  refine wp_region_held_drew (S := (fun w' => w'.cell? ⟨w.heap.size, 0, none⟩ = some (.int .i64 x.room) ∧ w'.cell? ⟨w.heap.size, 1, none⟩ = some (.slice x.a x.ps.length x.c))) (by kernel_rfl) K0 (fun hHeld => ?_)
  refine wpAnyH_take (i := 0) (oi := oM0) (v := .string s) rfl (by kernel_rfl) (by kernel_rfl) (by kernel_rfl) (fun _ _ _ h => h) (Or.inl ⟨by rfl, fun w hSw => ?_⟩) hHeld ?_
  · (try dsimp only at hSw)
    unfold oM0
    go_simp
  try simp only [oM0, Act.put, List.setIfInBounds_toArray, List.set_cons_zero, List.set_cons_succ]
  refine wpAnyH_take (i := 1) (oi := oM1) (v := .int .i64 s.size) rfl (by kernel_rfl) (by kernel_rfl) (by kernel_rfl) (fun _ _ _ h => h) (Or.inl ⟨by rfl, fun w hSw => ?_⟩) hHeld ?_
  · (try dsimp only at hSw)
    unfold oM1
    go_simp
  try simp only [oM1, Act.put, List.setIfInBounds_toArray, List.set_cons_zero, List.set_cons_succ]
  refine wpAnyH_take (i := 2) (oi := oM2) (v := .pointer (some ⟨w.heap.size, 0, none⟩)) rfl (by kernel_rfl) (by kernel_rfl) (by kernel_rfl) (fun _ _ _ h => h) (Or.inl ⟨by rfl, fun w hSw => ?_⟩) hHeld ?_
  · (try dsimp only at hSw)
    unfold oM2
    go_simp
  try simp only [oM2, Act.put, List.setIfInBounds_toArray, List.set_cons_zero, List.set_cons_succ]
  refine wpAnyH_take (i := 3) (oi := oM3) (v := .int .i64 x.room) rfl (by kernel_rfl) (by kernel_rfl) (by kernel_rfl) (fun _ _ _ h => h) (Or.inl ⟨by rfl, fun w hSw => ?_⟩) hHeld ?_
  · (try dsimp only at hSw)
    unfold oM3
    go_simp
  try simp only [oM3, Act.put, List.setIfInBounds_toArray, List.set_cons_zero, List.set_cons_succ]
  refine wpAnyH_take (i := 4) (oi := oM4) (v := .agg #[.int .i64 x.room, .slice x.a x.ps.length x.c]) rfl (by kernel_rfl) (by kernel_rfl) (by kernel_rfl) (fun _ _ _ h => h) (Or.inl ⟨by rfl, fun w hSw => ?_⟩) hHeld ?_
  · (try dsimp only at hSw)
    unfold oM4
    go_simp
  try simp only [oM4, Act.put, List.setIfInBounds_toArray, List.set_cons_zero, List.set_cons_succ]
  refine wpAnyH_ready (rs := [5]) (by kernel_rfl) (by simp) ?_
  refine AllReadyH.cons (o := oM5) rfl (fun K hK => ?_) AllReadyH.nil
  unfold oM5
  go_simp
  go_wp2_with fail
  refine (iSizeD u.drew x (unhide WU).drew.r hz).mono ?_
  rintro e v ⟨rfl, bb⟩
  have bb1 : Below u.heap.size u v := ⟨bb.os, bb.tape, bb.output, bb.size, bb.block⟩
  have WV := hide ((unhide WU).step bb1)
  have RV := hide ((unhide R2).below bb1 (unhide R2).lt.2)
  have K1 : v.cell? ⟨w.heap.size, 0, none⟩ = some (.int .i64 x.room) ∧ v.cell? ⟨w.heap.size, 1, none⟩ = some (.slice x.a x.ps.length x.c) := ⟨(unhide WV).c0, (unhide WV).c1⟩
  have vs := bb1.size
  clear bb bb1
  go_wp2_with fail
  refine hK.out _ _ K1 (fun hHeld => ?_)
  clear hK K
  try simp only [oM5, Act.put, List.setIfInBounds_toArray, List.set_cons_zero, List.set_cons_succ]
  refine wpAnyH_take (i := 6) (oi := oM6) (v := .int .i64 (x.room - sumZ x.ps)) rfl (by kernel_rfl) (by kernel_rfl) (by kernel_rfl) (fun _ _ _ h => h) (Or.inl ⟨by rfl, fun w hSw => ?_⟩) hHeld ?_
  · (try dsimp only at hSw)
    unfold oM6
    go_simp
  try simp only [oM6, Act.put, List.setIfInBounds_toArray, List.set_cons_zero, List.set_cons_succ]
  refine wpAnyH_take (i := 7) (oi := oM7) (v := .bool b) rfl (by kernel_rfl) (by kernel_rfl) (by kernel_rfl) (fun _ _ _ h => h) (Or.inl ⟨by rfl, fun w hSw => ?_⟩) hHeld ?_
  · (try dsimp only at hSw)
    unfold oM7
    go_simp
  try simp only [oM7, Act.put, List.setIfInBounds_toArray, List.set_cons_zero, List.set_cons_succ]
  refine wpAnyH_done (by kernel_rfl) ?_ _
  clear K0 K1 c0 c1 lt WU R2 wr wr2
  cases b with
  | true =>
    have E := hide (show rr = ((x.room, x.ps), 3) by rw [unhide RE, if_pos (by have := unhide HB; simpa using this)])
    have c0 := (unhide WV).c0
    have c1 := (unhide WV).c1
    have lt := (unhide WV).lt
    clear hb HB RE ROW HP
    go_wp2_with fail
    refine (iCopied _ x (unhide WV).r).mono ?_
    rintro e u9 ⟨y, hy0, hy, rfl, oy, b9⟩
    have R9 := hide ((unhide RV).below b9 (unhide RV).lt.2)
    have HY := hide (show (y.room, y.ps) = (x.room, x.ps) by rw [hy0, hy])
    have sz9 := (unhide RV).lt.2
    have EN := hide (endedD ((unhide WV).b.trans (b9.mono (unhide WV).b.size)) (unhide R9) oy (by omega))
    have f0 := (unhide R9).free 0
    have f1 := (unhide R9).free 1
    have r0 := (unhide R9).c0
    have r1 := (unhide R9).c1
    clear b9 oy hy0 hy c0 c1 lt
    go_wp2
    refine bodyPost_ret (v := .tuple #[.agg #[.int .i64 y.room, .slice y.a y.ps.length y.c], .int .i64 3]) (by simp [results, Try.results34, go_sem, r0, r1]) rfl ?_
    rw [unhide E]
    exact ⟨y, unhide HY, rfl, (unhide EN).1, (unhide EN).2⟩
  | false =>
    have E := hide (show rr = ((x.room, putF x.ps (nm, p1, p2 ++ s)), 0) by rw [unhide RE, if_neg (by have := unhide HB; simpa using this)])
    have sr : (s.size : Int) ≤ x.room - sumZ x.ps := by have := unhide HB; simpa using this
    have c0 := (unhide WV).c0
    have c1 := (unhide WV).c1
    have lt := (unhide WV).lt
    clear hb HB RE
    go_wp2_with fail
    refine (iTable _ x (unhide WV).r (wf_names (unhide OK))).mono ?_
    rintro e u1 ⟨rfl, tt, b2⟩
    have S1 := hide (show St w u1 x (v.heap.size + 1) x.ps.length (tabOf x.ps) from ⟨(unhide WV).step b2, (unhide RV).below b2 (unhide RV).lt.2, tt, by omega, unhide XA⟩)
    have us1 := b2.size
    clear tt b2 WV RV c0 c1 lt
    have S2 := hide ((unhide S1).step (one_more u1 (.cells #[.int .i64 p0, .string p1, .string p2] 54)))
    have sc : p2.size + s.size ≤ 9223372036854775807 := by omega
    have c0 := (unhide S2).d.c0
    have c1 := (unhide S2).d.c1
    have lt := (unhide S2).d.lt
    go_wp2_with (first | (at_lookup; refine wp_look _ rfl _ _ rfl (v.heap.size + 1) _ _ rfl (unhide S1).t nm rfl (unhide WF) _ (unhide HP) ?_) | (at_mapUpdate; refine wp_put _ rfl _ _ _ rfl (v.heap.size + 1) _ _ rfl (unhide S2).t h20 nm (nm, p1, p2 ++ s) rfl rfl (unhide WF) ?_; intro u4 t4 g4; have S4 := hide ((unhide S2).turn t4 g4); clear t4 g4 c0 c1 lt; have c0 := (unhide S4).d.c0; have c1 := (unhide S4).d.c1; have lt := (unhide S4).d.lt) | fail)
    refine (iDisk _ (v.heap.size + 1) _ _ x.room (unhide S4).t).mono ?_
    rintro e u9 ⟨y, hy0, hy, rfl, oy, b9⟩
    have R9 := hide ((unhide S4).r.below b9 (unhide S4).r.lt.2)
    have HY := hide (show (y.room, y.ps) = (x.room, putF x.ps (nm, p1, p2 ++ s)) by rw [hy0, hy, unhide ROW])
    have sz9 := (unhide S4).r.lt.2
    have EN := hide (endedD ((unhide S4).d.b.trans (b9.mono (unhide S4).d.b.size)) (unhide R9) oy (by omega))
    have f0 := (unhide R9).free 0
    have f1 := (unhide R9).free 1
    have r0 := (unhide R9).c0
    have r1 := (unhide R9).c1
    clear b9 oy hy0 hy c0 c1 lt
    go_wp2
    refine bodyPost_ret (v := .tuple #[.agg #[.int .i64 y.room, .slice y.a y.ps.length y.c], .int .i64 0]) (by simp [results, Try.results34, go_sem, r0, r1]) rfl ?_
    rw [unhide E]
    exact ⟨y, unhide HY, rfl, (unhide EN).1, (unhide EN).2⟩
end Go.Proofs.Ytcajdiopgaoicaa.IAppend14
namespace Go.Proofs.Ytcajdiopgaoicaa.ILate15
open Go.ChangeShapes Go.WideShapes Go.ChangeAt Go.RowKit Fil14 DiskH14 DkH14 SDk14 SOk14 SRd14 SCom14 SAppend14 Conv15 SegP15 SSeg15 SLate15 ISg15
open SBytes (AtB)
open SSeal11 (sealB)
set_option maxRecDepth 100000 in
set_option maxHeartbeats 4000000 in
theorem iSegLate (w : World) (x : Dx) (seg : Int) (s : ByteArray) (hr : RdD w x) (hz : sumZ x.ps ≤ 1048576) (hs : s.size ≤ 1048576) (hw : TabF14.Wf seg) :
    Calls Try.prog 12 #[.agg #[.int .i64 x.room, .slice x.a x.ps.length x.c], .int .i64 seg, .string s] w (ToldD (lateD x.room x.ps seg s) w) := by
  have G0 := hide (begunD hr)
  have s2 : ((w.alloc (.cells #[.int .i64 x.room, .slice x.a x.ps.length x.c] 26)).alloc (.cells #[.int .i64 0, .slice none 0 0] 26)).heap.size = w.heap.size + 2 := by simp
  obtain ⟨cb, W3, hcb, CV, AB, s3, b3⟩ := to_bytes ((w.alloc (.cells #[.int .i64 x.room, .slice x.a x.ps.length x.c] 26)).alloc (.cells #[.int .i64 0, .slice none 0 0] 26)) s
  have W4 := hide ((unhide G0).1.step b3)
  have R4 := hide ((unhide G0).2.below b3 (by omega))
  rw [s2] at CV AB s3
  have SE := hide (ISeal11.iSeal W3 (w.heap.size + 2) cb (nums s) (by rw [nums_len]; exact hs) (by omega) AB)
  have RE := hide (show lateD x.room x.ps seg s = if s.size ≤ 9000 ∧ okS seg = true then appendD x.room x.ps seg (sealT s) else ((0, []), 1) from rfl)
  have AP := hide (fun u (h : RdD u x) hq => IAppend14.iDiskAppend u x seg (sealT s) h hz hq)
  have ET : sealT s = strOfNums (sealB (nums s)) := rfl
  have XL := hide (nums_len s)
  rw [ET] at AP RE
  generalize lateD x.room x.ps seg s = rr at *
  generalize appendD x.room x.ps seg (strOfNums (sealB (nums s))) = ra at *
  have NZ := hide (show s.size ≤ 9000 → (sealB (nums s)).length ≠ 0 by
    intro q
    have e : sealB (nums s) = SPut11.numB (nums s).length ++ nums s ++ SSeal11.four (SBytes.chkB (nums s)) := if_pos (by rw [nums_len]; exact q)
    rw [e]
    simp only [List.length_append]
    have := ISeal11.numB_some (nums s).length
    omega)
  generalize sealB (nums s) = sb at *
  generalize nums s = xs at *
  clear hr G0 AB b3 ET hcb
  go_enter Try.func12, Try.ntmps12
  go_wp2_with fail
  refine (unhide SE).mono ?_
  rintro e u ⟨a5, c, rfl, o5, b5⟩
  have CB := hide (fun (g : Nat) (h : a5 = some ⟨g, 0, none⟩) (o : ByteH.At u g sb) => of_bytes u g c sb o)
  have O5 := hide o5.either
  have SB := hide (show sb.length ≤ 9223372036854775807 by
    rcases o5.either with ⟨_, _, h⟩ | ⟨g, _, o⟩
    · rw [h]; simp
    · rcases o.2 with ⟨h1, _⟩ | ⟨g', c', cur, h1, h2, h3, h4, h5, h6⟩
      · simp at h1
      · unfold maxLen at h5
        omega)
  have W5 := hide ((unhide W4).step b5)
  have R5 := hide ((unhide R4).below b5 (unhide R4).lt.2)
  have us := b5.size
  clear o5 b5 CV SE W4 R4
  have c0 := (unhide W5).c0
  have c1 := (unhide W5).c1
  have lt := (unhide W5).lt
  by_cases q : s.size ≤ 9000
  case neg =>
    have E := hide (show rr = ((0, []), 1) by rw [unhide RE, if_neg (fun h => q h.1)])
    have EN := hide (endedD (y := ⟨0, none, 0, []⟩) (base0 := w.heap.size + 2) (unhide W5).b (unhide R5) ⟨rfl, .inl ⟨rfl, rfl⟩⟩ (by omega))
    have f0 := (unhide R5).free 0
    have f1 := (unhide R5).free 1
    have r0 := (unhide R5).c0
    have r1 := (unhide R5).c1
    have qd : decide (xs.length ≤ 9000) = false := decide_eq_false (by rw [unhide XL]; exact q)
    clear RE AP q CB O5 c0 c1 lt
    go_wp2
    refine bodyPost_ret (v := .tuple #[.agg #[.int .i64 0, .slice none 0 0], .int .i64 1]) (by simp [results, Try.results12, go_sem, r0, r1]) rfl ?_
    rw [unhide E]
    exact ⟨⟨0, none, 0, []⟩, rfl, rfl, (unhide EN).1, (unhide EN).2⟩
  have qd : decide (xs.length ≤ 9000) = true := decide_eq_true (by rw [unhide XL]; exact q)
  obtain ⟨g, rfl, og⟩ : ∃ g, a5 = some ⟨g, 0, none⟩ ∧ ByteH.At u g sb := by
    rcases unhide O5 with ⟨_, _, h⟩ | ⟨g, h, o⟩
    · have := (unhide NZ) q
      rw [h] at this
      simp at this
    · exact ⟨g, h, o.at⟩
  have CB := (unhide CB) g rfl og
  clear og O5 NZ
  cases sk : okS seg with
  | false =>
    have E := hide (show rr = ((0, []), 1) by rw [unhide RE, if_neg (fun h => by rw [sk] at h; simp at h)])
    have EN := hide (endedD (y := ⟨0, none, 0, []⟩) (base0 := w.heap.size + 2) (unhide W5).b (unhide R5) ⟨rfl, .inl ⟨rfl, rfl⟩⟩ (by omega))
    have f0 := (unhide R5).free 0
    have f1 := (unhide R5).free 1
    have r0 := (unhide R5).c0
    have r1 := (unhide R5).c1
    have SK := hide sk
    clear RE AP q CB sk c0 c1 lt
    go_wp2_with fail
    refine (iSegOk _ seg false (unhide SK)).mono ?_
    rintro e u ⟨rfl, rfl⟩
    go_wp2
    refine bodyPost_ret (v := .tuple #[.agg #[.int .i64 0, .slice none 0 0], .int .i64 1]) (by simp [results, Try.results12, go_sem, r0, r1]) rfl ?_
    rw [unhide E]
    exact ⟨⟨0, none, 0, []⟩, rfl, rfl, (unhide EN).1, (unhide EN).2⟩
  | true =>
    have E := hide (show rr = ra by rw [unhide RE, if_pos ⟨q, sk⟩])
    have SK := hide sk
    clear RE q sk
    go_wp2_with fail
    refine (iSegOk _ seg true (unhide SK)).mono ?_
    rintro e u ⟨rfl, rfl⟩
    go_wp2_with fail
    refine (unhide AP _ (unhide W5).r (by rw [strOfNums_size]; exact unhide SB)).mono ?_
    rintro e u9 ⟨y, hy, rfl, oy, b9⟩
    obtain ⟨rd, rc⟩ := ra
    have R9 := hide ((unhide R5).below b9 (unhide R5).lt.2)
    have HY := hide hy
    have EN := hide (endedD ((unhide W5).b.trans (b9.mono (unhide W5).b.size)) (unhide R9) oy (unhide R5).lt.2)
    have f0 := (unhide R9).free 0
    have f1 := (unhide R9).free 1
    have r0 := (unhide R9).c0
    have r1 := (unhide R9).c1
    clear b9 oy hy c0 c1 lt CB AP
    go_wp2
    refine bodyPost_ret (v := .tuple #[.agg #[.int .i64 y.room, .slice y.a y.ps.length y.c], .int .i64 rc]) (by simp [results, Try.results12, go_sem, r0, r1]) rfl ?_
    rw [unhide E]
    exact ⟨y, unhide HY, rfl, (unhide EN).1, (unhide EN).2⟩
end Go.Proofs.Ytcajdiopgaoicaa.ILate15
namespace Go.Proofs.Ytcajdiopgaoicaa.ISync14
open Go.ChangeShapes Go.WideShapes Go.ChangeAt Go.RowKit Fil14 DiskH14 DkH14 SDk14 SOk14 SRd14 App14 SLess14 SCopy14 SRef14 SCom14 SPut14 SSync14 TabF14 PTab14 IFile14 ITb14 ICp14 IDk14 ICom14
set_option maxRecDepth 100000 in
set_option maxHeartbeats 4000000 in
theorem iDiskSync (w : World) (x : Dx) (nm : Int) (hr : RdD w x) (hz : sumZ x.ps ≤ 1048576) : Calls Try.prog 30 #[.agg #[.int .i64 x.room, .slice x.a x.ps.length x.c], .int .i64 nm] w (ToldD (syncD x.room x.ps nm) w) := by
  have G0 := hide (begunD hr)
  have s2 : ((w.alloc (.cells #[.int .i64 x.room, .slice x.a x.ps.length x.c] 26)).alloc (.cells #[.int .i64 0, .slice none 0 0] 26)).heap.size = w.heap.size + 2 := by simp
  have OK0 := hide (fun b h => iOkB _ x b (unhide G0).1.r hz h)
  have N_nm := hide (fun u b h => iNameB u nm b h)
  have XA := hide (fun g e => (hr.r g e).1)
  have h20 := hr.n
  clear hr
  by_cases ok : OkD x.room x.ps
  case neg =>
    have E := hide (show syncD x.room x.ps nm = ((0, []), 1) by unfold syncD; rw [at_bad (fun h => ok h.1)]; rfl)
    generalize syncD x.room x.ps nm = rr at *
    have OKD := hide (decide_eq_false ok)
    clear ok
    go_enter Try.func30, Try.ntmps30
    go_wp2_with fail
    refine ((unhide OK0) false (unhide OKD)).mono ?_
    rintro e u ⟨rfl, b1⟩
    have R2 := hide ((unhide G0).2.below b1 (by omega))
    have WU := hide ((unhide G0).1.step b1)
    have us := b1.size
    rw [s2] at us
    clear b1 G0 OK0 s2
    have c0 := (unhide WU).c0
    have c1 := (unhide WU).c1
    have lt := (unhide WU).lt
    have EN := hide (endedD (y := ⟨0, none, 0, []⟩) (base0 := w.heap.size + 2) (unhide WU).b (unhide R2) ⟨rfl, .inl ⟨rfl, rfl⟩⟩ (by omega))
    have f0 := (unhide R2).free 0
    have f1 := (unhide R2).free 1
    have r0 := (unhide R2).c0
    have r1 := (unhide R2).c1
    clear c0 c1 lt
    go_wp2
    refine bodyPost_ret (v := .tuple #[.agg #[.int .i64 0, .slice none 0 0], .int .i64 1]) (by simp [results, Try.results30, go_sem, r0, r1]) rfl ?_
    rw [unhide E]
    exact ⟨⟨0, none, 0, []⟩, rfl, rfl, (unhide EN).1, (unhide EN).2⟩
  have OKD := hide (decide_eq_true ok)
  have OK := hide ok
  by_cases nk : okN nm = true
  case neg =>
    have E := hide (show syncD x.room x.ps nm = ((0, []), 1) by unfold syncD; rw [at_bad (fun h => nk h.2)]; rfl)
    generalize syncD x.room x.ps nm = rr at *
    have NK := hide (show okN nm = false by simpa using nk)
    clear ok nk
    go_enter Try.func30, Try.ntmps30
    go_wp2_with fail
    refine ((unhide OK0) true (unhide OKD)).mono ?_
    rintro e u ⟨rfl, b1⟩
    have R2 := hide ((unhide G0).2.below b1 (by omega))
    have WU := hide ((unhide G0).1.step b1)
    have us := b1.size
    rw [s2] at us
    clear b1 G0 OK0 s2
    have c0 := (unhide WU).c0
    have c1 := (unhide WU).c1
    have lt := (unhide WU).lt
    go_wp2_with fail
    refine ((unhide N_nm) _ false (unhide NK)).mono ?_
    rintro e u ⟨rfl, rfl⟩
    have EN := hide (endedD (y := ⟨0, none, 0, []⟩) (base0 := w.heap.size + 2) (unhide WU).b (unhide R2) ⟨rfl, .inl ⟨rfl, rfl⟩⟩ (by omega))
    have f0 := (unhide R2).free 0
    have f1 := (unhide R2).free 1
    have r0 := (unhide R2).c0
    have r1 := (unhide R2).c1
    clear c0 c1 lt
    go_wp2
    refine bodyPost_ret (v := .tuple #[.agg #[.int .i64 0, .slice none 0 0], .int .i64 1]) (by simp [results, Try.results30, go_sem, r0, r1]) rfl ?_
    rw [unhide E]
    exact ⟨⟨0, none, 0, []⟩, rfl, rfl, (unhide EN).1, (unhide EN).2⟩
  have NK := hide nk
  have WF := hide (wf_ok nk)
  have TL := hide (tl_ok ok)
  by_cases q : findF x.ps nm < 0
  case pos =>
    have E := hide (show syncD x.room x.ps nm = ((x.room, x.ps), 2) by unfold syncD; rw [at_none ok nk q]; rfl)
    generalize syncD x.room x.ps nm = rr at *
    have FN := tl_no (unhide TL) q
    have HP := hide (show (tabOf x.ps nm).getD z0 = (0, ByteArray.empty, ByteArray.empty) by rw [FN]; rfl)
    have HI := hide (show (tabOf x.ps nm).isSome = false by rw [FN]; rfl)
    clear ok nk q FN
    go_enter Try.func30, Try.ntmps30
    go_wp2_with fail
    refine ((unhide OK0) true (unhide OKD)).mono ?_
    rintro e u ⟨rfl, b1⟩
    have R2 := hide ((unhide G0).2.below b1 (by omega))
    have WU := hide ((unhide G0).1.step b1)
    have us := b1.size
    rw [s2] at us
    clear b1 G0 OK0 s2
    have c0 := (unhide WU).c0
    have c1 := (unhide WU).c1
    have lt := (unhide WU).lt
    go_wp2_with fail
    refine ((unhide N_nm) _ true (unhide NK)).mono ?_
    rintro e u ⟨rfl, rfl⟩
    go_wp2_with fail
    refine (iTable _ x (unhide WU).r (wf_names (unhide OK))).mono ?_
    rintro e u1 ⟨rfl, tt, b2⟩
    have S1 := hide (show St w u1 x (u.heap.size + 1) x.ps.length (tabOf x.ps) from ⟨(unhide WU).step b2, (unhide R2).below b2 (unhide R2).lt.2, tt, by omega, unhide XA⟩)
    have us1 := b2.size
    clear tt b2 WU R2 c0 c1 lt
    have S2 := hide ((unhide S1).step (one_more u1 (.cells #[.int .i64 0, .string ByteArray.empty, .string ByteArray.empty] 54)))
    have c0 := (unhide S2).d.c0
    have c1 := (unhide S2).d.c1
    have lt := (unhide S2).d.lt
    go_wp2_with (first | (at_lookup; refine wp_have _ rfl _ _ rfl (u.heap.size + 1) _ _ rfl (unhide S1).t nm rfl (unhide WF) _ false (unhide HP) (unhide HI) ?_) | fail)
    refine (iCopied _ x (unhide S2).d.r).mono ?_
    rintro e u9 ⟨y, hy0, hy, rfl, oy, b9⟩
    have R9 := hide ((unhide S2).r.below b9 (unhide S2).r.lt.2)
    have HY := hide (show (y.room, y.ps) = (x.room, x.ps) by rw [hy0, hy])
    have sz9 := (unhide S2).r.lt.2
    have EN := hide (endedD ((unhide S2).d.b.trans (b9.mono (unhide S2).d.b.size)) (unhide R9) oy (by omega))
    have f0 := (unhide R9).free 0
    have f1 := (unhide R9).free 1
    have r0 := (unhide R9).c0
    have r1 := (unhide R9).c1
    clear b9 oy hy0 hy c0 c1 lt
    go_wp2
    refine bodyPost_ret (v := .tuple #[.agg #[.int .i64 y.room, .slice y.a y.ps.length y.c], .int .i64 2]) (by simp [results, Try.results30, go_sem, r0, r1]) rfl ?_
    rw [unhide E]
    exact ⟨y, unhide HY, rfl, (unhide EN).1, (unhide EN).2⟩
  obtain ⟨k, ek, kl, en⟩ := findF_in (ps := x.ps) (nm := nm) (by omega)
  have E := hide (show syncD x.room x.ps nm = ((x.room, putF x.ps (nm, bytesAt x.ps k, ByteArray.empty)), 0) by unfold syncD; rw [at_yes ok nk ek]; rfl)
  generalize syncD x.room x.ps nm = rr at *
  have ROW := hide (tl_row (tl_put (unhide TL) (nm, bytesAt x.ps k, ByteArray.empty) (Pure14.ok_named.1 nk)))
  have BY : bytesAt x.ps k = (elF x.ps k).2.1 ++ (elF x.ps k).2.2 := rfl
  have FY := tl_yes (unhide TL) kl en
  have SZ := hide (el_size hz kl)
  have HP := hide (show (tabOf x.ps nm).getD z0 = ((elF x.ps k).1, (elF x.ps k).2.1, (elF x.ps k).2.2) by rw [FY]; rfl)
  have HI := hide (show (tabOf x.ps nm).isSome = true by rw [FY]; rfl)
  rw [BY] at ROW E
  clear ok nk q FY BY ek en TL
  generalize (elF x.ps k).1 = p0 at *
  generalize (elF x.ps k).2.1 = p1 at *
  generalize (elF x.ps k).2.2 = p2 at *
  clear kl
  go_enter Try.func30, Try.ntmps30
  go_wp2_with fail
  refine ((unhide OK0) true (unhide OKD)).mono ?_
  rintro e u ⟨rfl, b1⟩
  have R2 := hide ((unhide G0).2.below b1 (by omega))
  have WU := hide ((unhide G0).1.step b1)
  have us := b1.size
  rw [s2] at us
  clear b1 G0 OK0 s2
  have c0 := (unhide WU).c0
  have c1 := (unhide WU).c1
  have lt := (unhide WU).lt
  go_wp2_with fail
  refine ((unhide N_nm) _ true (unhide NK)).mono ?_
  rintro e u ⟨rfl, rfl⟩
  go_wp2_with fail
  refine (iTable _ x (unhide WU).r (wf_names (unhide OK))).mono ?_
  rintro e u1 ⟨rfl, tt, b2⟩
  have S1 := hide (show St w u1 x (u.heap.size + 1) x.ps.length (tabOf x.ps) from ⟨(unhide WU).step b2, (unhide R2).below b2 (unhide R2).lt.2, tt, by omega, unhide XA⟩)
  have us1 := b2.size
  clear tt b2 WU R2 c0 c1 lt
  have S2 := hide ((unhide S1).step (one_more u1 (.cells #[.int .i64 p0, .string p1, .string p2] 54)))
  have c0 := (unhide S2).d.c0
  have c1 := (unhide S2).d.c1
  have lt := (unhide S2).d.lt
  go_wp2_with (first | (at_lookup; refine wp_have _ rfl _ _ rfl (u.heap.size + 1) _ _ rfl (unhide S1).t nm rfl (unhide WF) _ true (unhide HP) (unhide HI) ?_) | fail)
  refine (iText _ p0 p1 p2 (unhide SZ)).mono ?_
  rintro e u3 ⟨rfl, b3⟩
  have S3 := hide ((unhide S2).step b3)
  clear b3 c0 c1 lt S1
  have c0 := (unhide S3).d.c0
  have c1 := (unhide S3).d.c1
  have lt := (unhide S3).d.lt
  go_wp2_with (first | (at_mapUpdate; refine wp_put _ rfl _ _ _ rfl (u.heap.size + 1) _ _ rfl (unhide S3).t h20 nm (nm, p1 ++ p2, ByteArray.empty) rfl rfl (unhide WF) ?_; intro u4 t4 g4; have S4 := hide ((unhide S3).turn t4 g4); clear t4 g4 c0 c1 lt; have c0 := (unhide S4).d.c0; have c1 := (unhide S4).d.c1; have lt := (unhide S4).d.lt) | fail)
  refine (iDisk _ (u.heap.size + 1) _ _ x.room (unhide S4).t).mono ?_
  rintro e u9 ⟨y, hy0, hy, rfl, oy, b9⟩
  have R9 := hide ((unhide S4).r.below b9 (unhide S4).r.lt.2)
  have HY := hide (show (y.room, y.ps) = (x.room, putF x.ps (nm, p1 ++ p2, ByteArray.empty)) by rw [hy0, hy, unhide ROW])
  have sz9 := (unhide S4).r.lt.2
  have EN := hide (endedD ((unhide S4).d.b.trans (b9.mono (unhide S4).d.b.size)) (unhide R9) oy (by omega))
  have f0 := (unhide R9).free 0
  have f1 := (unhide R9).free 1
  have r0 := (unhide R9).c0
  have r1 := (unhide R9).c1
  clear b9 oy hy0 hy c0 c1 lt
  go_wp2
  refine bodyPost_ret (v := .tuple #[.agg #[.int .i64 y.room, .slice y.a y.ps.length y.c], .int .i64 0]) (by simp [results, Try.results30, go_sem, r0, r1]) rfl ?_
  rw [unhide E]
  exact ⟨y, unhide HY, rfl, (unhide EN).1, (unhide EN).2⟩
end Go.Proofs.Ytcajdiopgaoicaa.ISync14
namespace Go.Proofs.Ytcajdiopgaoicaa.IAdd15
open Go.ChangeShapes Go.WideShapes Go.ChangeAt Go.RowKit Fil14 DiskH14 DkH14 SDk14 SOk14 SRd14 SCom14 SAppend14 SSync14 Conv15 SegP15 SSeg15 SLate15 SAdd15
set_option maxRecDepth 100000 in
set_option maxHeartbeats 4000000 in
theorem iSegAdd (w : World) (x : Dx) (seg : Int) (s : ByteArray) (hr : RdD w x) (hz : sumZ x.ps ≤ 1048576) (hs : s.size ≤ 1048576) (hw : TabF14.Wf seg) :
    Calls Try.prog 10 #[.agg #[.int .i64 x.room, .slice x.a x.ps.length x.c], .int .i64 seg, .string s] w (ToldD (addD x.room x.ps seg s) w) := by
  have G0 := hide (begunD hr)
  have s2 : ((w.alloc (.cells #[.int .i64 x.room, .slice x.a x.ps.length x.c] 26)).alloc (.cells #[.int .i64 0, .slice none 0 0] 26)).heap.size = w.heap.size + 2 := by simp
  have LA := hide (fun u (h : RdD u x) => ILate15.iSegLate u x seg s h hz hs hw)
  have RE := hide (show addD x.room x.ps seg s = if (lateD x.room x.ps seg s).2 = 0 then syncD (lateD x.room x.ps seg s).1.1 (lateD x.room x.ps seg s).1.2 seg else lateD x.room x.ps seg s from rfl)
  have OK := hide (ok_late (room := x.room) (ps := x.ps) (seg := seg) (s := s))
  generalize addD x.room x.ps seg s = rr at *
  generalize lateD x.room x.ps seg s = la at *
  obtain ⟨⟨lr, lp⟩, lc⟩ := la
  clear hr
  go_enter Try.func10, Try.ntmps10
  go_wp2_with fail
  refine (unhide LA _ (unhide G0).1.r).mono ?_
  rintro e u ⟨y, hy, rfl, oy, b1⟩
  have e1 : y.room = lr := (Prod.ext_iff.1 hy).1
  have e2 : y.ps = lp := (Prod.ext_iff.1 hy).2
  subst e1 e2
  have W1 := hide ((unhide G0).1.step b1)
  have R1 := hide ((unhide G0).2.below b1 (by omega))
  have us := b1.size
  rw [s2] at oy us
  clear b1 G0 LA s2
  have bA := one_more u (.cells #[.int .i64 y.room, .slice y.a y.ps.length y.c] 26)
  have W2 := hide ((unhide W1).step bA)
  have R2 := hide ((unhide R1).below bA (unhide R1).lt.2)
  have O2 := hide (oy.step bA)
  clear bA oy W1 R1
  by_cases q : lc = 0
  case neg =>
    have E := hide (show rr = ((y.room, y.ps), lc) by rw [unhide RE, if_neg q])
    have qb : (lc != 0) = true := by simpa using q
    have EN := hide (endedD (unhide W2).b (unhide R2) (unhide O2) (by omega))
    have f0 := (unhide R2).free 0
    have f1 := (unhide R2).free 1
    have r0 := (unhide R2).c0
    have r1 := (unhide R2).c1
    clear RE OK q
    go_wp2
    refine bodyPost_ret (v := .tuple #[.agg #[.int .i64 y.room, .slice y.a y.ps.length y.c], .int .i64 lc]) (by simp [results, Try.results10, go_sem, r0, r1]) rfl ?_
    rw [unhide E]
    exact ⟨y, rfl, rfl, (unhide EN).1, (unhide EN).2⟩
  subst q
  have ok := (unhide OK) rfl
  try simp only at ok
  have E := hide (show rr = syncD y.room y.ps seg by rw [unhide RE, if_pos rfl])
  have SY := hide (fun u (h : RdD u y) => ISync14.iDiskSync u y seg h (by have := ok.2.2.1; have := ok.1.2; omega))
  have l22 := ok.2.1
  generalize syncD y.room y.ps seg = rs at *
  clear RE OK ok
  go_wp2_with fail
  refine (unhide SY _ ((unhide O2).rd (by omega))).mono ?_
  rintro e u9 ⟨z, hz', rfl, oz, b9⟩
  obtain ⟨rd, rc⟩ := rs
  have R9 := hide ((unhide R2).below b9 (unhide R2).lt.2)
  have HZ := hide hz'
  have EN := hide (endedD ((unhide W2).b.trans (b9.mono (unhide W2).b.size)) (unhide R9) oz (unhide R2).lt.2)
  have f0 := (unhide R9).free 0
  have f1 := (unhide R9).free 1
  have r0 := (unhide R9).c0
  have r1 := (unhide R9).c1
  clear b9 oz hz' SY
  go_wp2
  refine bodyPost_ret (v := .tuple #[.agg #[.int .i64 z.room, .slice z.a z.ps.length z.c], .int .i64 rc]) (by simp [results, Try.results10, go_sem, r0, r1]) rfl ?_
  rw [unhide E]
  exact ⟨z, unhide HZ, rfl, (unhide EN).1, (unhide EN).2⟩
end Go.Proofs.Ytcajdiopgaoicaa.IAdd15
namespace Go.Proofs.Ytcajdiopgaoicaa.IRd14
open Go.ChangeShapes Go.WideShapes Go.ChangeAt Go.RowKit Fil14 DiskH14 DkH14 SDk14 SOk14 SRd14 App14 SLess14 SCopy14 SRef14 SCom14 SPut14 TabF14 PTab14 IFile14 ITb14 ICp14 IDk14 ICom14
set_option maxRecDepth 100000 in
set_option maxHeartbeats 4000000 in
theorem iDiskRead (w : World) (x : Dx) (nm : Int) (hr : RdD w x) (hz : sumZ x.ps ≤ 1048576) (hw : Wf nm) : Calls Try.prog 19 #[.agg #[.int .i64 x.room, .slice x.a x.ps.length x.c], .int .i64 nm] w fun e w' => e = .returned (.tuple #[.string (readD x.room x.ps nm).1, .bool (readD x.room x.ps nm).2]) ∧ Below w.heap.size w w' := by
  have W0 := hide (Wd.made hr 26)
  have OK0 := hide (fun b h => iOkB _ x b (unhide W0).r hz h)
  have RE := hide (show readD x.room x.ps nm = if OkD x.room x.ps ∧ 0 ≤ findF x.ps nm then (bytesAt x.ps (findF x.ps nm).toNat, true) else (ByteArray.empty, false) from rfl)
  have WF := hide hw
  generalize readD x.room x.ps nm = rr at *
  clear hr hw
  by_cases ok : OkD x.room x.ps
  case neg =>
    obtain rfl : rr = (ByteArray.empty, false) := by rw [unhide RE, if_neg (fun h => ok h.1)]
    have OKD := hide (decide_eq_false ok)
    clear ok RE
    go_enter Try.func19, Try.ntmps19
    go_wp2_with fail
    refine ((unhide OK0) false (unhide OKD)).mono ?_
    rintro e u ⟨rfl, b1⟩
    have B := hide ((unhide W0).b.trans (b1.mono (unhide W0).b.size))
    clear b1 W0 OK0
    go_wp2
    go_ret2
    exact ⟨rfl, unhide B⟩
  have OKD := hide (decide_eq_true ok)
  have TL := hide (tl_ok ok)
  have WN := hide (wf_names ok)
  obtain ⟨p, b, fn, HP, HI, SZ⟩ : ∃ (p : TF) (b : Bool), rr = (p.2.1 ++ p.2.2, b) ∧ (tabOf x.ps nm).getD z0 = p ∧ (tabOf x.ps nm).isSome = b ∧ p.2.1.size + p.2.2.size ≤ 1048576 := by
    by_cases q : findF x.ps nm < 0
    · have FN := tl_no (unhide TL) q
      exact ⟨z0, false, by rw [unhide RE, if_neg (by omega)]; rfl, by rw [FN]; rfl, by rw [FN]; rfl, by simp⟩
    · obtain ⟨k, ek, kl, en⟩ := findF_in (ps := x.ps) (nm := nm) (by omega)
      have FY := tl_yes (unhide TL) kl en
      exact ⟨elF x.ps k, true, by rw [unhide RE, if_pos ⟨ok, by omega⟩, ek]; rfl, by rw [FY]; rfl, by rw [FY]; rfl, el_size hz kl⟩
  subst fn
  obtain ⟨p0, p1, p2⟩ := p
  have HP := hide HP
  have HI := hide HI
  clear ok RE TL
  simp only at SZ
  go_enter Try.func19, Try.ntmps19
  go_wp2_with fail
  refine ((unhide OK0) true (unhide OKD)).mono ?_
  rintro e u ⟨rfl, b1⟩
  have WU := hide ((unhide W0).step b1)
  clear b1 W0 OK0
  have c0 := (unhide WU).c0
  have c1 := (unhide WU).c1
  have lt := (unhide WU).lt
  go_wp2_with fail
  refine (iTable _ x (unhide WU).r (unhide WN)).mono ?_
  rintro e u1 ⟨rfl, tt, b2⟩
  have T1 := hide tt
  have B1 := hide (((unhide WU).b.trans (b2.mono (unhide WU).b.size)).trans ((one_more u1 (.cells #[.int .i64 p0, .string p1, .string p2] 54)).mono (Nat.le_trans (unhide WU).b.size b2.size)))
  clear tt b2 WU c0 c1 lt
  go_wp2_with (first | (at_lookup; refine wp_have _ rfl _ _ rfl (u.heap.size + 1) _ _ rfl (unhide T1) nm rfl (unhide WF) _ b (unhide HP) (unhide HI) ?_) | fail)
  refine (iText _ p0 p1 p2 SZ).mono ?_
  rintro e u3 ⟨rfl, b3⟩
  have B3 := hide ((unhide B1).trans (b3.mono (unhide B1).size))
  clear b3
  go_wp2
  go_ret2
  exact ⟨rfl, unhide B3⟩
end Go.Proofs.Ytcajdiopgaoicaa.IRd14
namespace Go.Proofs.Ytcajdiopgaoicaa.IRd11
open Go.ChangeShapes Go.WideShapes Go.ChangeAt Go.RowKit SBytes SPut11
/-- The place of a reader: a number in a block of the call's own. -/
abbrev Pl (w : World) (base p : Nat) (x : Int) : Prop := Ints.Own w base p 1 1 [x]
theorem Pl.cell {w : World} {base p : Nat} {x : Int} (h : Pl w base p x) : w.cell? ⟨p, 0, none⟩ = some (.int .i64 x) := h.at 0 (by simp)
theorem pl_box (w : World) (base : Nat) {g : Nat} (x : Int) (hb : base ≤ w.heap.size) (hg : g = w.heap.size) : Pl (w.alloc (.cells #[.int .i64 x] 3)) base g x := by
  subst hg
  exact World.ownsRow_lit w #[.int .i64 x] 1 hb (by decide) rfl
theorem pl_alloc {w : World} {base p : Nat} {x : Int} (h : Pl w base p x) (o : Obj) : Pl (w.alloc o) base p x := World.ownsRow.alloc h o
theorem grow_below {w w1 w2 : World} {row : Option Nat} (h : w.grownBy w1 row) (k : Below w1.heap.size w1 w2) : w.grownBy w2 row :=
  ⟨k.os.trans h.os, k.tape.trans h.tape, k.output.trans h.output, Nat.le_trans h.size k.size, fun i hi hr => (k.block i (Nat.lt_of_lt_of_le hi h.size)).trans (h.block i hi hr)⟩
theorem grow_grow {w w1 w2 : World} {row : Option Nat} (h : w.grownBy w1 row) (k : w1.grownBy w2 row) : w.grownBy w2 row :=
  ⟨k.os.trans h.os, k.tape.trans h.tape, k.output.trans h.output, Nat.le_trans h.size k.size, fun i hi hr => (k.block i (Nat.lt_of_lt_of_le hi h.size) hr).trans (h.block i hi hr)⟩
theorem pl_set {w : World} {base p : Nat} {x : Int} (h : Pl w base p x) (y : Int) : Pl (w.setCell ⟨p, 0, none⟩ (.int .i64 y)) base p y ∧ w.grownBy (w.setCell ⟨p, 0, none⟩ (.int .i64 y)) (some p) := Ints.Own.set h 0 y
set_option maxRecDepth 100000 in
theorem iTake_low (w : World) (gl cl p base n : Nat) (x many : Int) (h : x < 0) (hp : Pl w base p x) :
    Calls Try.prog 58 #[.agg #[.slice (some ⟨gl, 0, none⟩) n cl, .pointer (some ⟨p, 0, none⟩)], .int .i64 many] w fun e w' => e = .returned (.tuple #[.slice none 0 0, .bool false]) ∧ Below w.heap.size w w' := by
  have pc := hp.cell
  have pl := hp.lt.2
  clear hp
  go_enter Try.func58, Try.ntmps58
  go_wp2
  go_ret2
  exact ⟨rfl, one_more _ _⟩
set_option maxRecDepth 100000 in
theorem iTake_no (w : World) (gl cl p base n : Nat) (x many : Int) (h : 0 ≤ x) (hx : x ≤ 9223372036854775807) (hn : n ≤ 1048576) (hm : (n : Int) - x < many) (hp : Pl w base p x) :
    Calls Try.prog 58 #[.agg #[.slice (some ⟨gl, 0, none⟩) n cl, .pointer (some ⟨p, 0, none⟩)], .int .i64 many] w fun e w' => e = .returned (.tuple #[.slice none 0 0, .bool false]) ∧ Below w.heap.size w w' := by
  have pc := hp.cell
  have pl := hp.lt.2
  clear hp
  go_enter Try.func58, Try.ntmps58
  go_wp2
  go_ret2
  exact ⟨rfl, one_more _ _⟩
set_option maxRecDepth 100000 in
theorem iTake_yes (w : World) (gl cl p base n k m : Nat) (hc : n ≤ cl) (hn : n ≤ 1048576) (h1 : 1 ≤ m) (hm : k + m ≤ n) (hp : Pl w base p k) :
    Calls Try.prog 58 #[.agg #[.slice (some ⟨gl, 0, none⟩) n cl, .pointer (some ⟨p, 0, none⟩)], .int .i64 m] w fun e w' => ∃ c, e = .returned (.tuple #[.slice (some ⟨gl, k, none⟩) m c, .bool true]) ∧ m ≤ c ∧ Pl w' base p (k + m) ∧ w.grownBy w' (some p) := by
  have pc := hp.cell
  have pl := hp.lt.2
  have pf := hp.free 0
  have PP := hide hp
  have ck : ¬ cl = k := by omega
  clear hp
  go_enter Try.func58, Try.ntmps58
  go_wp2

  go_region
  go_wp2
  go_ret2
  have e : k + m - k = m := by omega
  obtain ⟨s1, s2⟩ := pl_set (unhide PP) (k + m)
  exact ⟨cl - k, by show Ending.returned (.tuple #[.slice (some ⟨gl, k, none⟩) (k + m - k) (cl - k), .bool true]) = _; rw [e], by omega, pl_alloc s1 _, grow_below s2 (one_more _ _).drew⟩
/-- What a reader's number comes to: as GetNum tells it. -/
def NumSaid (r : Int × Int × Bool) (w : World) (base p : Nat) (e : Ending) (w' : World) : Prop :=
  ∃ v q, e = .returned (.tuple #[.int .i64 v, .bool r.2.2]) ∧ (r.2.2 = true → v = r.1 ∧ q = r.2.1) ∧ Pl w' base p q ∧ w.grownBy w' (some p)
theorem NumSaid.no {w w' : World} {base p : Nat} {e : Ending} (v q : Int) (h : e = .returned (.tuple #[.int .i64 v, .bool false])) (hp : Pl w' base p q) (hg : w.grownBy w' (some p)) : NumSaid (0, 0, false) w base p e w' := ⟨v, q, h, by simp, hp, hg⟩
theorem NumSaid.yes {w w' : World} {base p : Nat} {e : Ending} {v q : Int} (v' q' : Int) (h : e = .returned (.tuple #[.int .i64 v', .bool true])) (hv : v' = v) (hq : q' = q) (hp : Pl w' base p q') (hg : w.grownBy w' (some p)) : NumSaid (v, q, true) w base p e w' := ⟨v', q', h, fun _ => ⟨hv, hq⟩, hp, hg⟩
theorem AtB.grown {w w' : World} {g p : Nat} {xs : List Int} (h : AtB w g xs) (k : w.grownBy w' (some p)) (hg : g < w.heap.size) (hp : g ≠ p) : AtB w' g xs :=
  fun i hi => ⟨(World.cell?_of_block (w := w) (k.block g hg (by simpa using hp))).trans (h i hi).1, (h i hi).2⟩
theorem rd_box (w : World) (a b : Value) : (w.alloc (.cells #[a, b] 78)).cell? ⟨w.heap.size, 0, none⟩ = some a ∧ (w.alloc (.cells #[a, b] 78)).cell? ⟨w.heap.size, 1, none⟩ = some b := by simp
theorem cell_grown {w w' : World} {p : Nat} (k : w.grownBy w' (some p)) {g : Nat} (o : Nat) (hg : g < w.heap.size) (hp : g ≠ p) : w'.cell? ⟨g, o, none⟩ = w.cell? ⟨g, o, none⟩ :=
  World.cell?_of_block (w := w) (k.block g hg (by simpa using hp))
set_option maxRecDepth 100000 in
theorem iNum_low (w : World) (gl cl p base : Nat) (xs : List Int) (x : Int) (h : x < 0) (hp : Pl w base p x) :
    Calls Try.prog 57 #[.agg #[.slice (some ⟨gl, 0, none⟩) xs.length cl, .pointer (some ⟨p, 0, none⟩)]] w (NumSaid (getN xs x) w base p) := by
  have e : getN xs x = (0, 0, false) := by unfold getN; rw [if_pos (.inl h)]
  have PP := hide hp
  clear hp
  rw [e]
  go_enter Try.func57, Try.ntmps57
  go_wp2
  go_loopw [4, 5, 6, 7, 8] (fun _ _ _ _ i wr => i = .int .i64 0 ∧ wr = w.alloc (.cells #[.slice (some ⟨gl, 0, none⟩) xs.length cl, .pointer (some ⟨p, 0, none⟩)] 78)) (fun _ _ _ _ _ _ => 0)
  case atStart => exact ⟨rfl, rfl⟩
  case round =>
    obtain ⟨rfl, rfl⟩ := hrel
    go_wp2_with fail
    refine (iTake_low _ gl cl p base xs.length x 1 h (pl_alloc (unhide PP) _)).mono ?_
    rintro e u ⟨rfl, b1⟩
    have B1 := hide b1
    clear b1
    go_wp2
    go_ret2
    have b := (one_more w _).trans ((unhide B1).mono (by simp))
    exact .no 0 x rfl ((unhide PP).below b (unhide PP).lt.2) (grow_below (World.grownBy.refl _ _) b)
set_option maxRecDepth 100000 in
theorem iNum_far (w : World) (gl cl p base : Nat) (xs : List Int) (x : Int) (h0 : 0 ≤ x) (h : (xs.length : Int) ≤ x) (hx : x ≤ 9223372036854775807) (h20 : xs.length ≤ 1048576) (hp : Pl w base p x) :
    Calls Try.prog 57 #[.agg #[.slice (some ⟨gl, 0, none⟩) xs.length cl, .pointer (some ⟨p, 0, none⟩)]] w (NumSaid (getN xs x) w base p) := by
  have e : getN xs x = (0, 0, false) := by unfold getN; rw [if_pos (.inr h)]
  have PP := hide hp
  clear hp
  rw [e]
  go_enter Try.func57, Try.ntmps57
  go_wp2
  go_loopw [4, 5, 6, 7, 8] (fun _ _ _ _ i wr => i = .int .i64 0 ∧ wr = w.alloc (.cells #[.slice (some ⟨gl, 0, none⟩) xs.length cl, .pointer (some ⟨p, 0, none⟩)] 78)) (fun _ _ _ _ _ _ => 0)
  case atStart => exact ⟨rfl, rfl⟩
  case round =>
    obtain ⟨rfl, rfl⟩ := hrel
    go_wp2_with fail
    refine (iTake_no _ gl cl p base xs.length x 1 h0 hx h20 (by omega) (pl_alloc (unhide PP) _)).mono ?_
    rintro e u ⟨rfl, b1⟩
    have B1 := hide b1
    clear b1
    go_wp2
    go_ret2
    have b := (one_more w _).trans ((unhide B1).mono (by simp))
    exact .no 0 x rfl ((unhide PP).below b (unhide PP).lt.2) (grow_below (World.grownBy.refl _ _) b)
theorem shl_is (d : Int) (k : Nat) (h0 : 0 ≤ d) (h1 : d ≤ 127) (hk : k ≤ 8) : wrap64 (d * 2 ^ (7 * k)) = d * 128 ^ k := by
  have e : (128 : Int) ^ k = 2 ^ (7 * k) := by rw [show (128 : Int) = 2 ^ 7 by decide, ← Int.pow_mul]
  rw [← e]
  have p := pow_le k hk
  have m0 := Int.mul_nonneg h0 (Int.le_trans (by decide) p.1)
  have m1 := Int.mul_le_mul_of_nonneg_right h1 (Int.le_trans (by decide) p.1)
  rw [wrap64]
  omega
theorem or_is (v d : Int) (k : Nat) (hk : k ≤ 8) (h0 : 0 ≤ d) (h1 : d ≤ 127) (v0 : 0 ≤ v) (v1 : v < 128 ^ k) : bits .or .i64 v (d * 128 ^ k) = v + d * 128 ^ k := by
  have e : (128 : Int) ^ k = 2 ^ (7 * k) := by rw [show (128 : Int) = 2 ^ 7 by decide, ← Int.pow_mul]
  have p := pow_le k hk
  have m0 := Int.mul_nonneg h0 (Int.le_trans (by decide) p.1)
  have m1 := Int.mul_le_mul_of_nonneg_right h1 (Int.le_trans (by decide) p.1)
  refine bits_join_low .i64 63 (by decide) (fun n a b => by rw [IntKind.wrap_i64]; omega) (7 * k) v _ v0 (by rw [← e]; exact v1) (by omega) m0 ?_ (by omega)
  rw [e]
  exact Int.mul_emod_left _ _
set_option maxRecDepth 100000 in
set_option maxHeartbeats 4000000 in
theorem iNum_in (w : World) (gl cl p base : Nat) (xs : List Int) (n : Nat) (h : n < xs.length) (h20 : xs.length ≤ 1048576) (hc : xs.length ≤ cl) (hg : gl < base) (hr : AtB w gl xs) (hp : Pl w base p n) :
    Calls Try.prog 57 #[.agg #[.slice (some ⟨gl, 0, none⟩) xs.length cl, .pointer (some ⟨p, 0, none⟩)]] w (NumSaid (getN xs n) w base p) := by
  have E0 := hide (show getN xs n = getF xs n 9 0 from by unfold getN; rw [if_neg (by omega)]; simp)
  generalize getN xs n = r at *
  obtain ⟨r0, r1, r2⟩ := r
  obtain ⟨l0, l1⟩ := hp.lt
  have G0 := hide (show w.grownBy (w.alloc (.cells #[.slice (some ⟨gl, 0, none⟩) xs.length cl, .pointer (some ⟨p, 0, none⟩)] 78)) (some p) from grow_below (World.grownBy.refl _ _) (one_more _ _))
  have C0 := hide (rd_box w (.slice (some ⟨gl, 0, none⟩) xs.length cl) (.pointer (some ⟨p, 0, none⟩)))
  have P0 := hide (show Pl (w.alloc (.cells #[.slice (some ⟨gl, 0, none⟩) xs.length cl, .pointer (some ⟨p, 0, none⟩)] 78)) base p ((n + (0 : Nat) : Nat) : Int) from pl_alloc hp _)
  have R := hide hr
  have S0 := hide (show w.heap.size + 1 ≤ (w.alloc (.cells #[.slice (some ⟨gl, 0, none⟩) xs.length cl, .pointer (some ⟨p, 0, none⟩)] 78)).heap.size from by simp)
  clear hr hp
  go_enter Try.func57, Try.ntmps57
  go_wp2
  go_loopw [4, 5, 6, 7, 8] (fun a _ _ _ i wr => ∃ (k : Nat) (v : Int), k ≤ 9 ∧ i = .int .i64 k ∧ a = .int .i64 v ∧ Hid (v = val xs n k) ∧ Hid ((r0, r1, r2) = getF xs n (9 - k) k) ∧ Hid (Pl wr base p ((n + k : Nat) : Int)) ∧ Hid (w.grownBy wr (some p)) ∧ Hid (wr.cell? ⟨w.heap.size, 0, none⟩ = some (.slice (some ⟨gl, 0, none⟩) xs.length cl) ∧ wr.cell? ⟨w.heap.size, 1, none⟩ = some (.pointer (some ⟨p, 0, none⟩))) ∧ Hid (w.heap.size + 1 ≤ wr.heap.size)) (fun _ _ _ _ i _ => 9 - (intOf i).toNat)
  case atStart => exact ⟨0, 0, by omega, rfl, rfl, rfl, E0, P0, G0, C0, S0⟩
  case round =>
    clear E0 P0 G0 C0 S0
    obtain ⟨k, v, hk, rfl, rfl, HV, HE, HP, HG, HC, HS⟩ := hrel
    have bs := unhide HS
    obtain ⟨c0, c1⟩ := unhide HC
    by_cases t : k < 9
    case neg =>
      have e : k = 9 := by omega
      subst e
      have F : (r0, r1, r2) = (0, 0, false) := unhide HE
      injection F with F0 F
      injection F with F1 F2
      subst F0 F1 F2
      clear HE
      go_wp2
      go_ret2
      exact .no 0 _ rfl (unhide HP) (unhide HG)
    have F := unhide HE
    rw [show 9 - k = (8 - k) + 1 by omega] at F
    simp only [getF] at F
    have HF := hide F
    clear HE F
    have k9 : (k : Int) < 9 := by omega
    by_cases q : n + k < xs.length
    case neg =>
      have F := unhide HF
      rw [if_neg q] at F
      injection F with F0 F
      injection F with F1 F2
      subst F0 F1 F2
      clear HF
      go_wp2_with fail
      refine (iTake_no _ gl cl p base xs.length _ 1 (by omega) (by omega) h20 (by omega) (unhide HP)).mono ?_
      rintro e u ⟨rfl, b1⟩
      have B1 := hide b1
      clear b1
      go_wp2
      go_ret2
      exact .no 0 _ rfl ((unhide HP).below (unhide B1) (unhide HP).lt.2) (grow_below (unhide HG) (unhide B1))
    obtain ⟨_, d0, d1⟩ := (unhide R) (n + k) q
    have vi := val_in xs n k
    rw [← unhide HV] at vi
    have SO := hide (show bits .or .i64 v (wrap64 (xs.getD (n + k) 0 % 128 * 2 ^ (7 * k))) = val xs n (k + 1) from by
      rw [shl_is _ k (by omega) (by omega) (by omega), or_is v _ k (by omega) (by omega) (by omega) vi.1 vi.2, unhide HV]; rfl)
    clear vi
    have VI := hide (val_in xs n (k + 1))
    go_wp2_with fail
    refine (iTake_yes _ gl cl p base xs.length (n + k) 1 hc h20 (by omega) (by omega) (unhide HP)).mono ?_
    rintro e u ⟨c, rfl, hc1, p1, g1⟩
    have P1 := hide p1
    have G1 := hide (grow_grow (unhide HG) g1)
    have D := hide ((AtB.grown (unhide R) (unhide G1) (by omega) (by omega)) (n + k) q)
    have C1 := hide (And.intro ((cell_grown g1 0 bs (by omega)).trans c0) ((cell_grown g1 1 bs (by omega)).trans c1))
    have us := g1.size
    clear p1 g1
    obtain ⟨dc, _⟩ := unhide D
    have F := unhide HF
    rw [if_pos q] at F
    clear HF D VI HC c0 c1 HP HG HS
    generalize xs.getD (n + k) 0 = d at *
    by_cases m : d < 128
    · rw [if_pos m] at F
      by_cases z : d = 0
      · subst z
        by_cases k0 : k = 0
        · have kb : ((k : Int) == 0) = true := by simp [k0]
          rw [if_neg (by omega)] at F
          injection F with F0 F
          injection F with F1 F2
          subst F0 F1 F2
          have K0 := hide k0
          clear k0
          go_wp2
          go_ret2
          exact .yes _ _ rfl (by simpa [wrap64] using unhide SO) (by simp) (unhide P1) (unhide G1)
        · have kb : ((k : Int) == 0) = false := by simp [k0]
          rw [if_pos (by omega)] at F
          injection F with F0 F
          injection F with F1 F2
          subst F0 F1 F2
          have K0 := hide k0
          clear k0
          go_wp2
          go_ret2
          exact .no _ _ rfl (unhide P1) (unhide G1)
      · rw [if_neg (by omega)] at F
        injection F with F0 F
        injection F with F1 F2
        subst F0 F1 F2
        go_wp2
        go_ret2
        exact .yes _ _ rfl (unhide SO) (by simp) (unhide P1) (unhide G1)
    · rw [if_neg m] at F
      have HF := hide F
      clear F
      go_wp2
      go_roundw
      case rel => exact ⟨k + 1, _, by omega, by go_num, rfl, SO, by rw [show 9 - (k + 1) = 8 - k by omega]; exact HF, hide (by have := unhide P1; rw [show ((n + (k + 1) : Nat) : Int) = ((n + k : Nat) : Int) + ((1 : Nat) : Int) by omega]; exact this), G1, C1, hide (by omega)⟩
      case measure => simp [intOf]; omega
/-- The number that a reader tells. -/
theorem iNum (w : World) (gl cl p base : Nat) (xs : List Int) (x : Int) (hx : x ≤ 9223372036854775807) (h20 : xs.length ≤ 1048576) (hc : xs.length ≤ cl) (hg : gl < base) (hr : AtB w gl xs) (hp : Pl w base p x) :
    Calls Try.prog 57 #[.agg #[.slice (some ⟨gl, 0, none⟩) xs.length cl, .pointer (some ⟨p, 0, none⟩)]] w (NumSaid (getN xs x) w base p) := by
  by_cases h0 : x < 0
  · exact iNum_low w gl cl p base xs x h0 hp
  by_cases h1 : (xs.length : Int) ≤ x
  · exact iNum_far w gl cl p base xs x (by omega) h1 hx h20 hp
  obtain ⟨n, rfl⟩ : ∃ n : Nat, x = n := ⟨x.toNat, by omega⟩
  exact iNum_in w gl cl p base xs n (by omega) h20 hc hg hr hp
end Go.Proofs.Ytcajdiopgaoicaa.IRd11
namespace Go.Proofs.Ytcajdiopgaoicaa.EqS11
open Go.ChangeShapes Go.WideShapes Go.ChangeAt Go.RowKit
theorem eqSum (a b c d x y z v : Int) (w : World) : (Op.equalIn 10000 83 (.agg #[.int .u8 a, .int .u8 b, .int .u8 c, .int .u8 d]) (.agg #[.int .u8 x, .int .u8 y, .int .u8 z, .int .u8 v])).run Try.prog w = .ok (a == x && b == y && c == z && d == v) w := by
  obtain ⟨i0, hi, _⟩ := info_parts ByteH.info8
  have u3 := Try.underlying5
  have a3 := Try.isAgg5
  have hc : Try.prog.cellsOf 5 = 1 := by kernel_rfl
  rw [show (10000 : Nat) = 9999 + 1 from rfl, run_equalIn_array w 9999 _ _ Try.underlying83 hi, hc, show List.range 4 = [0, 1, 2, 3] from rfl]
  simp only [Op.eqItems]
  go_simp
  by_cases h1 : a = x <;> by_cases h2 : b = y <;> by_cases h3 : c = z <;> by_cases h4 : d = v <;> simp [h1, h2, h3, h4]
end Go.Proofs.Ytcajdiopgaoicaa.EqS11
namespace Go.Proofs.Ytcajdiopgaoicaa.StepB11
open Go.ChangeShapes Go.WideShapes Go.ChangeAt Go.RowKit SBytes SPut11
open ByteH (Own At)
/-- Bytes appended to bytes of the call's own, at a step of a region that draws its order. -/
theorem step_catB (u : World) {ops : Array Oper} {o : Oper} {a : Act} {K : Act → World → Prop} {Q : Exit → Act → World → Prop} {E : Prop} (hgd : o.guard = none) (s x : Operand)
    (ho : o.op = .call { callee := .builtin .append, args := #[s, x], argTypes := #[22, 22] }) (base g n cap m : Nat) (xs ys : List Int) (vb off c : Nat)
    (hs : a.eval s = .slice (some ⟨g, 0, none⟩) n cap) (hx : a.eval x = .slice (some ⟨vb, off, none⟩) m c) (hown : Own u base g n cap xs) (hl : ys.length = m) (hv : AtO u vb off ys) (hn : n + m ≤ 9223372036854) (hb : base ≤ u.heap.size)
    (h : ∀ g' c' w', Own w' base g' (n + m) c' (xs ++ ys) → u.grownBy w' (some g) → (g' = g ∨ g' = u.heap.size) → K (a.put o.dst (.slice (some ⟨g', 0, none⟩) (n + m) c')) w') : if Region.wanted o (yielded ops a.tmps) = true then Oper.wp Try.prog o a u K Q else E := by
  obtain ⟨i0, hi, hz0, hz1, hz2⟩ := info_parts ByteH.info8
  have hw : Region.wanted o (yielded ops a.tmps) = true := by simp [Region.wanted, hgd]
  rw [if_pos hw]
  obtain ⟨v', w', hr, own', gr', nil', loc'⟩ := run_append_own_at (P := Try.prog) u base 22 o.type 5 i0 (.int .u8 0) 1 1 Try.underlying22 hi hz0 hz1 hz2 rfl (by decide) (.slice (some ⟨g, 0, none⟩) n cap) n (xs.map (Value.int .u8)) hown ⟨vb, off, none⟩ m c (ys.map (Value.int .u8)) (by simp [hl]) (fun j v hj => by
    have hj' : j < ys.length := by
      have := (List.getElem?_eq_some_iff.1 hj).1
      simpa using this
    have := hv j hj'
    rw [Addr.add_lit, this]
    rw [← hj]
    simp [List.getD, hj']) (by intro u hu; obtain ⟨y, _, rfl⟩ := List.mem_map.1 hu; simp [Value.oneCell']) (by unfold maxLen; omega) (by omega) hb
  unfold Oper.wp execOp
  simp only [ho, resolve, invoke, builtin, Sem.run_bind, Sem.run_pure, Result.andThen_ok, List.map_toArray, List.map_cons, List.map_nil, hs, hx, hr]
  obtain ⟨g', c', rfl, o'⟩ := own_of_row (n' := n + m) (xs := xs ++ ys) own' rfl (by simp) (by rw [nil']; simp)
  exact h g' c' w' o' gr' (by simpa [Value.ownBlock] using loc')
end Go.Proofs.Ytcajdiopgaoicaa.StepB11
namespace Go.Proofs.Ytcajdiopgaoicaa.IUnseal11
open Go.ChangeShapes Go.WideShapes Go.ChangeAt Go.RowKit SBytes SPut11 SUnseal11 IRd11 StepB11
open ByteH (Own At)
abbrev oU0 : Oper := { dst := some 45, op := Go.Op.load 83 (Go.Operand.tmp 12), type := 83, pos := "l11_bytes.go:92", after := #[], guard := none }
abbrev oU1 : Oper := { dst := some 46, op := Go.Op.move (Go.Operand.tmp 11), type := 22, pos := "l11_bytes.go:92", after := #[], guard := none }
abbrev oU2 : Oper := { dst := some 47, op := Go.Op.call { callee := Go.Callee.value (Go.Operand.func 59), args := #[Go.Operand.tmp 46], argTypes := #[22] }, type := 83, pos := "l11_bytes.go:92", after := #[{ on := 1, ground := Go.Ground.data }], guard := none }
abbrev oU3 : Oper := { dst := some 48, op := Go.Op.binOp Go.BinOp.neq 83 (Go.Operand.tmp 45) (Go.Operand.tmp 47) 83, type := 4, pos := "l11_bytes.go:92", after := #[{ on := 0, ground := Go.Ground.data }, { on := 2, ground := Go.Ground.data }], guard := none }
abbrev oV0 : Oper := { dst := some 50, op := Go.Op.buildSlice 22 0 #[], type := 22, pos := "l11_bytes.go:95", after := #[], guard := none }
abbrev oV1 : Oper := { dst := some 51, op := Go.Op.move (Go.Operand.tmp 11), type := 22, pos := "l11_bytes.go:95", after := #[], guard := none }
abbrev oV2 : Oper := { dst := some 52, op := Go.Op.call { callee := Go.Callee.builtin Go.Builtin.append, args := #[Go.Operand.tmp 50, Go.Operand.tmp 51], argTypes := #[22, 22] }, type := 22, pos := "l11_bytes.go:95", after := #[{ on := 0, ground := Go.Ground.data }, { on := 1, ground := Go.Ground.data }], guard := none }
abbrev oV3 : Oper := { dst := some 53, op := Go.Op.load 3 (Go.Operand.tmp 3), type := 3, pos := "l11_bytes.go:95", after := #[{ on := 4, ground := Go.Ground.gcOnly Go.Departure.lateStores }], guard := none }
abbrev oV4 : Oper := { dst := some 4, op := Go.Op.assign (Go.Operand.tmp 52), type := 22, pos := "l11_bytes.go:95", after := #[{ on := 2, ground := Go.Ground.data }, { on := 2, ground := Go.Ground.chain }, { on := 0, ground := Go.Ground.phase }, { on := 1, ground := Go.Ground.phase }, { on := 2, ground := Go.Ground.phase }, { on := 3, ground := Go.Ground.textOnly Go.Departure.lateStores }], guard := none }
abbrev oV5 : Oper := { dst := some 5, op := Go.Op.assign (Go.Operand.tmp 53), type := 3, pos := "l11_bytes.go:95", after := #[{ on := 3, ground := Go.Ground.data }, { on := 4, ground := Go.Ground.chain }, { on := 0, ground := Go.Ground.phase }, { on := 1, ground := Go.Ground.phase }, { on := 2, ground := Go.Ground.phase }, { on := 3, ground := Go.Ground.phase }, { on := 4, ground := Go.Ground.phase }], guard := none }
abbrev oV6 : Oper := { dst := some 6, op := Go.Op.assign (Go.Operand.const (Go.Value.int Go.IntKind.i64 0)), type := 3, pos := "l11_bytes.go:95", after := #[{ on := 5, ground := Go.Ground.chain }, { on := 0, ground := Go.Ground.phase }, { on := 1, ground := Go.Ground.phase }, { on := 2, ground := Go.Ground.phase }, { on := 3, ground := Go.Ground.phase }, { on := 4, ground := Go.Ground.phase }, { on := 5, ground := Go.Ground.phase }], guard := none }
set_option maxRecDepth 100000 in
set_option maxHeartbeats 4000000 in
theorem iUnseal (w : World) (gl cl : Nat) (xs : List Int) (p0 : Int) (h20 : xs.length ≤ 1048576) (hc : xs.length ≤ cl) (hx : p0 ≤ 9223372036854775807) (hg : gl < w.heap.size) (hr : AtB w gl xs) :
    Calls Try.prog 29 #[.slice (some ⟨gl, 0, none⟩) xs.length cl, .int .i64 p0] w fun e w' => ∃ a c, e = .returned (.tuple #[.slice a (unsealN xs p0).1.length c, .int .i64 (unsealN xs p0).2.1, .int .i64 (unsealN xs p0).2.2]) ∧ VOB.Ob w' w.heap.size a (unsealN xs p0).1.length c (unsealN xs p0).1 ∧ Below w.heap.size w w' := by
  have R := hide hr
  have HG := hide hg
  have GI := hide (getN_in xs p0)
  have X0 := hide (show Pl ((w.alloc (.cells #[.int .i64 p0] 3)).alloc (.cells #[.slice (some ⟨gl, 0, none⟩) xs.length cl, .pointer (some ⟨w.heap.size, 0, none⟩)] 78)) w.heap.size w.heap.size p0 from pl_alloc (pl_box w w.heap.size p0 (Nat.le_refl _) rfl) _)
  have B0 := hide ((one_more w (.cells #[.int .i64 p0] 3)).alloc (by simp) (.cells #[.slice (some ⟨gl, 0, none⟩) xs.length cl, .pointer (some ⟨w.heap.size, 0, none⟩)] 78))
  have C0 := hide (rd_box (w.alloc (.cells #[.int .i64 p0] 3)) (.slice (some ⟨gl, 0, none⟩) xs.length cl) (.pointer (some ⟨w.heap.size, 0, none⟩)))
  rw [show (w.alloc (.cells #[.int .i64 p0] 3)).heap.size = w.heap.size + 1 by simp] at C0
  have S0 := hide (show ((w.alloc (.cells #[.int .i64 p0] 3)).alloc (.cells #[.slice (some ⟨gl, 0, none⟩) xs.length cl, .pointer (some ⟨w.heap.size, 0, none⟩)] 78)).heap.size = w.heap.size + 2 from by simp)
  have IN := hide (iNum _ gl cl w.heap.size w.heap.size xs p0 hx h20 hc hg (hr.below (unhide B0) hg) (unhide X0))
  obtain ⟨r, hq⟩ : ∃ r, Hid (unsealN xs p0 = r) := ⟨_, rfl⟩
  rw [unhide hq]
  unfold unsealN at hq
  clear hr X0
  generalize getN xs p0 = y at *
  obtain ⟨n, f, ok⟩ := y
  go_enter Try.func29, Try.ntmps29
  go_wp2_with fail
  refine (unhide IN).mono ?_
  rintro e u ⟨v, q, rfl, hv, p1, g1⟩
  have us := g1.size
  rw [unhide S0] at us
  have B1 := hide ((unhide B0).grown g1 (by simp; omega) (fun j hj => by cases hj; exact Nat.le_refl _))
  have P1 := hide p1
  have d0 := (cell_grown g1 0 (g := w.heap.size + 1) (by simp) (by omega)).trans (unhide C0).1
  have d1 := (cell_grown g1 1 (g := w.heap.size + 1) (by simp) (by omega)).trans (unhide C0).2
  have pc := p1.cell
  clear p1 g1 IN C0 S0 B0
  cases ok with
  | false =>
    have e := unhide hq
    rw [if_pos (.inl rfl)] at e
    subst e
    have O5 := hide (lit0 u w.heap.size (by omega) rfl)
    have B5 := hide ((unhide B1).alloc (by omega) (.cells #[] 5))
    clear hq GI hv pc d0 d1
    go_wp2
    go_ret3
    exact ⟨_, 0, rfl, .of (unhide O5), unhide B5⟩
  | true =>
  obtain ⟨rfl, rfl⟩ := hv rfl
  obtain ⟨g0, g1, g2⟩ := (unhide GI) rfl
  clear GI hv
  by_cases n9 : 9000 < v
  · have e := unhide hq
    rw [if_pos (.inr n9)] at e
    subst e
    have O5 := hide (lit0 u w.heap.size (by omega) rfl)
    have B5 := hide ((unhide B1).alloc (by omega) (.cells #[] 5))
    clear hq pc d0 d1
    go_wp2
    go_ret3
    exact ⟨_, 0, rfl, .of (unhide O5), unhide B5⟩
  obtain ⟨n, rfl⟩ : ∃ n : Nat, v = n := ⟨v.toNat, by omega⟩
  obtain ⟨f, rfl⟩ : ∃ f : Nat, q = f := ⟨q.toNat, by omega⟩
  have Q := unhide hq
  rw [if_neg (by simp; omega)] at Q
  simp only [Int.toNat_natCast] at Q
  clear hq
  by_cases s : (xs.length : Int) - f < n + 4
  · rw [if_pos s] at Q
    subst Q
    have D := hide (And.intro d0 d1)
    clear pc
    go_wp2_with fail
    refine (iTake_no _ gl cl w.heap.size w.heap.size xs.length f (n + 4) (by omega) (by omega) h20 s (unhide P1)).mono ?_
    rintro e u2 ⟨rfl, b2⟩
    have s2 := b2.size
    have O5 := hide (lit0 u2 w.heap.size (by omega) rfl)
    have B5 := hide (((unhide B1).trans (b2.mono (by omega))).alloc (by omega) (.cells #[] 5))
    clear b2
    go_wp2
    go_ret3
    exact ⟨_, 0, rfl, .of (unhide O5), unhide B5⟩
  rw [if_neg s] at Q
  have HQ := hide Q
  clear Q pc
  have TK := hide (iTake_yes u gl cl w.heap.size w.heap.size xs.length f (n + 4) hc h20 (by omega) (by omega) (unhide P1))
  rw [show ((n + 4 : Nat) : Int) = (n : Int) + 4 by omega] at TK
  go_wp2_with fail
  refine (unhide TK).mono ?_
  rintro e u2 ⟨c, rfl, hc2, p2, g3⟩
  have s2 := g3.size
  have B2 := hide ((unhide B1).grown g3 (by omega) (fun j hj => by cases hj; exact Nat.le_refl _))
  have pc := p2.cell
  have A2 := hide ((unhide R).below (unhide B2) (unhide HG))
  clear p2 g3 TK d0 d1
  have z0 := ((unhide A2) (f + n) (by omega)).1
  have z1 := ((unhide A2) (f + n + 1) (by omega)).1
  have z2 := ((unhide A2) (f + n + 2) (by omega)).1
  have z3 := ((unhide A2) (f + n + 3) (by omega)).1
  obtain ⟨v0, V0⟩ : ∃ v, Hid (xs.getD (f + n) 0 = v) := ⟨_, rfl⟩
  obtain ⟨v1, V1⟩ : ∃ v, Hid (xs.getD (f + n + 1) 0 = v) := ⟨_, rfl⟩
  obtain ⟨v2, V2⟩ : ∃ v, Hid (xs.getD (f + n + 2) 0 = v) := ⟨_, rfl⟩
  obtain ⟨v3, V3⟩ : ∃ v, Hid (xs.getD (f + n + 3) 0 = v) := ⟨_, rfl⟩
  rw [unhide V0] at z0
  rw [unhide V1] at z1
  rw [unhide V2] at z2
  rw [unhide V3] at z3
  have cn : ¬ c = n := by omega
  have c4 : n + 4 ≤ c := hc2
  have gu : gl < u2.heap.size := by omega
  have hat : ∀ w, (Instr.arrayAt 83 (.slice (some ⟨gl, f + n, none⟩) 4 (c - n))).run Try.prog w = .ok (.pointer (some ⟨gl, f + n, none⟩)) w := fun w => run_arrayAt w 83 _ 4 _ 4 _ Try.underlying83 (by omega)
  go_wp2
  go_region
-- REST
  have K0 : (u2.alloc (.cells #[.int .u8 v0, .int .u8 v1, .int .u8 v2, .int .u8 v3] 83)).drew.cell? ⟨u2.heap.size, 0, none⟩ = some (.int .u8 v0) ∧ (u2.alloc (.cells #[.int .u8 v0, .int .u8 v1, .int .u8 v2, .int .u8 v3] 83)).drew.cell? ⟨u2.heap.size, 0 + 1, none⟩ = some (.int .u8 v1) ∧ (u2.alloc (.cells #[.int .u8 v0, .int .u8 v1, .int .u8 v2, .int .u8 v3] 83)).drew.cell? ⟨u2.heap.size, 0 + 2, none⟩ = some (.int .u8 v2) ∧ (u2.alloc (.cells #[.int .u8 v0, .int .u8 v1, .int .u8 v2, .int .u8 v3] 83)).drew.cell? ⟨u2.heap.size, 0 + 3, none⟩ = some (.int .u8 v3) := ⟨by simp, by simp, by simp, by simp⟩
  have PL := hide (piece_len (xs := xs) (f := f) (n := n) (by omega))
  have AP := hide (show ICheck11.AtBO u2 gl f (piece xs f n) from fun i hi => by
    rw [unhide PL] at hi
    rw [piece_get hi]
    exact (unhide A2) (f + i) (by omega))
  have SM := hide (fun u hg h => ISum11.iSum u gl f c (piece xs f n) (by rw [unhide PL]; omega) hg h)
  have CI := ISum11.chkB_in (piece xs f n)
  rw [unhide PL] at SM
  have w0 := ((unhide A2) (f + n) (by omega)).2
  have w1 := ((unhide A2) (f + n + 1) (by omega)).2
  have w2 := ((unhide A2) (f + n + 2) (by omega)).2
  have w3 := ((unhide A2) (f + n + 3) (by omega)).2
  rw [unhide V0] at w0
  rw [unhide V1] at w1
  rw [unhide V2] at w2
  rw [unhide V3] at w3
  have HQ2 := unhide HQ
  unfold fourN at HQ2
  rw [unhide V0, unhide V1, unhide V2, unhide V3] at HQ2
  clear HQ z0 z1 z2 z3 hat
  generalize chkB (piece xs f n) = z at *
  by_cases E : z = v0 + v1 * 256 + v2 * 65536 + v3 * 16777216
  · rw [if_pos E] at HQ2
    have e0 : z % 256 = v0 := by omega
    have e1 : z / 256 % 256 = v1 := by omega
    have e2 : z / 65536 % 256 = v2 := by omega
    have e3 : z / 16777216 % 256 = v3 := by omega
    rw [e0, e1, e2, e3] at SM
    have EQ : ∀ w : World, (Op.equalIn 10000 83 (.agg #[.int .u8 v0, .int .u8 v1, .int .u8 v2, .int .u8 v3]) (.agg #[.int .u8 v0, .int .u8 v1, .int .u8 v2, .int .u8 v3])).run Try.prog w = .ok true w := fun w => by rw [EqS11.eqSum]; simp
    have QQ := hide HQ2
    clear e0 e1 e2 e3 E CI w0 w1 w2 w3 HQ2
    go_wp2_with fail
    refine wp_region_held_drew (S := (fun w' => w'.cell? ⟨u2.heap.size, 0, none⟩ = some (.int .u8 v0) ∧ w'.cell? ⟨u2.heap.size, 0 + 1, none⟩ = some (.int .u8 v1) ∧ w'.cell? ⟨u2.heap.size, 0 + 2, none⟩ = some (.int .u8 v2) ∧ w'.cell? ⟨u2.heap.size, 0 + 3, none⟩ = some (.int .u8 v3))) (by kernel_rfl) K0 (fun hHeld => ?_)
    refine wpAnyH_take (i := 0) (oi := oU0) (v := .agg #[.int .u8 v0, .int .u8 v1, .int .u8 v2, .int .u8 v3]) rfl (by kernel_rfl) (by kernel_rfl) (by kernel_rfl) (fun _ _ _ h => h) (Or.inl ⟨by rfl, fun w hSw => ?_⟩) hHeld ?_
    · (try dsimp only at hSw)
      unfold oU0
      go_simp
    try simp only [oU0, Act.put, List.setIfInBounds_toArray, List.set_cons_zero, List.set_cons_succ]
    refine wpAnyH_take (i := 1) (oi := oU1) (v := .slice (some ⟨gl, f, none⟩) n c) rfl (by kernel_rfl) (by kernel_rfl) (by kernel_rfl) (fun _ _ _ h => h) (Or.inl ⟨by rfl, fun w hSw => ?_⟩) hHeld ?_
    · (try dsimp only at hSw)
      unfold oU1
      go_simp
    try simp only [oU1, Act.put, List.setIfInBounds_toArray, List.set_cons_zero, List.set_cons_succ]
    refine wpAnyH_ready (rs := [2]) (by kernel_rfl) (by simp) ?_
    refine AllReadyH.cons (o := oU2) rfl (fun K hK => ?_) AllReadyH.nil
    unfold oU2
    go_simp
    go_wp2_with fail
    refine ((unhide SM) _ (by simp [World.drew]; omega) (by exact (unhide AP).below ((one_more u2 (.cells #[.int .u8 v0, .int .u8 v1, .int .u8 v2, .int .u8 v3] 83)).drew.drew) gu)).mono ?_
    rintro e u3 ⟨rfl, b3⟩
    have B3 := hide (show Below (u2.heap.size + 1) (u2.alloc (.cells #[.int .u8 v0, .int .u8 v1, .int .u8 v2, .int .u8 v3] 83)) u3 from by
      have h := b3.mono (B' := u2.heap.size + 1) (by simp [World.drew])
      exact ⟨h.os, h.tape, h.output, h.size, h.block⟩)
    have s3 : u2.heap.size + 1 ≤ u3.heap.size := by have := (unhide B3).size; simpa using this
    have K3 : u3.cell? ⟨u2.heap.size, 0, none⟩ = some (.int .u8 v0) ∧ u3.cell? ⟨u2.heap.size, 0 + 1, none⟩ = some (.int .u8 v1) ∧ u3.cell? ⟨u2.heap.size, 0 + 2, none⟩ = some (.int .u8 v2) ∧ u3.cell? ⟨u2.heap.size, 0 + 3, none⟩ = some (.int .u8 v3) := ⟨((unhide B3).cell (p := ⟨u2.heap.size, 0, none⟩) (by simp)).trans (by simp), ((unhide B3).cell (p := ⟨u2.heap.size, 0 + 1, none⟩) (by simp)).trans (by simp), ((unhide B3).cell (p := ⟨u2.heap.size, 0 + 2, none⟩) (by simp)).trans (by simp), ((unhide B3).cell (p := ⟨u2.heap.size, 0 + 3, none⟩) (by simp)).trans (by simp)⟩
    clear b3 SM
    go_wp2_with fail
    refine hK.out _ _ K3 (fun hHeld => ?_)
    clear hK K
    try simp only [oU2, Act.put, List.setIfInBounds_toArray, List.set_cons_zero, List.set_cons_succ]
    refine wpAnyH_take (i := 3) (oi := oU3) (v := .bool false) rfl (by kernel_rfl) (by kernel_rfl) (by kernel_rfl) (fun _ _ _ h => h) (Or.inl ⟨by rfl, fun w hSw => ?_⟩) hHeld ?_
    · (try dsimp only at hSw)
      unfold oU3
      go_simp
    try simp only [oU3, Act.put, List.setIfInBounds_toArray, List.set_cons_zero, List.set_cons_succ]
    refine wpAnyH_done (by kernel_rfl) ?_ _
    have B4 := hide (show Below w.heap.size w u3 from ((unhide B2).alloc (by omega) (.cells #[.int .u8 v0, .int .u8 v1, .int .u8 v2, .int .u8 v3] 83)).trans ((unhide B3).mono (by omega)))
    have B3x := hide (show Below u2.heap.size u2 (u3.drew.alloc (.cells #[] 5)) from (((one_more u2 (.cells #[.int .u8 v0, .int .u8 v1, .int .u8 v2, .int .u8 v3] 83))).trans ((unhide B3).mono (by omega))).drew.alloc (show u2.heap.size ≤ u3.heap.size from by omega) _)
    have sd : w.heap.size ≤ u3.drew.heap.size := (show w.heap.size ≤ u3.heap.size from by omega)
    have p4 : u3.cell? ⟨w.heap.size, 0, none⟩ = some (.int .i64 ((f : Int) + ((n : Int) + 4))) := (((one_more u2 (.cells #[.int .u8 v0, .int .u8 v1, .int .u8 v2, .int .u8 v3] 83)).trans ((unhide B3).mono (by omega))).cell (p := ⟨w.heap.size, 0, none⟩) (show w.heap.size < u2.heap.size from by omega)).trans pc
    have p5 : (u3.drew.alloc (.cells #[] 5)).cell? ⟨w.heap.size, 0, none⟩ = some (.int .i64 ((f : Int) + ((n : Int) + 4))) := ((one_more u3.drew (.cells #[] 5)).cell (p := ⟨w.heap.size, 0, none⟩) (show w.heap.size < u3.heap.size from by omega)).trans p4
    go_wp2_with fail
    refine wp_region_held_drew (S := (fun w' => w'.cell? ⟨w.heap.size, 0, none⟩ = some (.int .i64 ((f : Int) + ((n : Int) + 4))))) (by kernel_rfl) p4 (fun hHeld => ?_)
    refine wpAnyH_take (i := 1) (oi := oV1) (v := .slice (some ⟨gl, f, none⟩) n c) rfl (by kernel_rfl) (by kernel_rfl) (by kernel_rfl) (fun _ _ _ h => h) (Or.inl ⟨by rfl, fun w hSw => ?_⟩) hHeld ?_
    · (try dsimp only at hSw)
      unfold oV1
      go_simp
    try simp only [oV1, Act.put, List.setIfInBounds_toArray, List.set_cons_zero, List.set_cons_succ]
    refine wpAnyH_take (i := 3) (oi := oV3) (v := .int .i64 ((f : Int) + ((n : Int) + 4))) rfl (by kernel_rfl) (by kernel_rfl) (by kernel_rfl) (fun _ _ _ h => h) (Or.inl ⟨by rfl, fun w hSw => ?_⟩) hHeld ?_
    · (try dsimp only at hSw)
      unfold oV3
      go_simp
    try simp only [oV3, Act.put, List.setIfInBounds_toArray, List.set_cons_zero, List.set_cons_succ]
    refine wpAnyH_ready (rs := [0]) (by kernel_rfl) (by simp) ?_
    refine AllReadyH.cons (o := oV0) rfl (fun K hK => ?_) AllReadyH.nil
    unfold oV0
    go_simp
    refine hK.out _ _ p5 (fun hHeld => ?_)
    clear hK K
    try simp only [oV0, Act.put, List.setIfInBounds_toArray, List.set_cons_zero, List.set_cons_succ]
    refine wpAnyH_ready (rs := [2]) (by kernel_rfl) (by simp) ?_
    refine AllReadyH.cons (o := oV2) rfl (fun K hK => ?_) AllReadyH.nil
    refine step_catB _ (by rfl) _ _ (by rfl) w.heap.size u3.heap.size 0 0 n [] (piece xs f n) gl f c (by rfl) (by rfl) (by exact lit0 u3.drew w.heap.size sd rfl) (by rw [unhide PL]) (by exact fun i hi => ((unhide AP).below (unhide B3x) (by omega) i hi).1) (by omega) (Nat.le_trans sd (by simp)) ?_
    intro g9 c9 u9 o9 gr9 loc9
    have K9 : u9.cell? ⟨w.heap.size, 0, none⟩ = some (.int .i64 ((f : Int) + ((n : Int) + 4))) := gr9.cell p5 (fun e => by injection e with e; simp at e; omega)
    have O9 := hide o9
    have B9 := hide (((unhide B4).drew.alloc sd (.cells #[] 5)).grown gr9 (Nat.le_trans sd (by simp)) (fun j hj => by cases hj; exact sd))
    clear o9 gr9 loc9
    refine hK.out _ _ K9 (fun hHeld => ?_)
    clear hK K
    try simp only [oV2, Act.put, List.setIfInBounds_toArray, List.set_cons_zero, List.set_cons_succ]
    refine wpAnyH_take (i := 4) (oi := oV4) (v := .slice (some ⟨g9, 0, none⟩) n c9) rfl (by kernel_rfl) (by kernel_rfl) (by kernel_rfl) (fun _ _ _ h => h) (Or.inl ⟨by rfl, fun w hSw => ?_⟩) hHeld ?_
    · (try dsimp only at hSw)
      unfold oV4
      go_simp
    try simp only [oV4, Act.put, List.setIfInBounds_toArray, List.set_cons_zero, List.set_cons_succ]
    refine wpAnyH_take (i := 5) (oi := oV5) (v := .int .i64 ((f : Int) + ((n : Int) + 4))) rfl (by kernel_rfl) (by kernel_rfl) (by kernel_rfl) (fun _ _ _ h => h) (Or.inl ⟨by rfl, fun w hSw => ?_⟩) hHeld ?_
    · (try dsimp only at hSw)
      unfold oV5
      go_simp
    try simp only [oV5, Act.put, List.setIfInBounds_toArray, List.set_cons_zero, List.set_cons_succ]
    refine wpAnyH_take (i := 6) (oi := oV6) (v := .int .i64 0) rfl (by kernel_rfl) (by kernel_rfl) (by kernel_rfl) (fun _ _ _ h => h) (Or.inl ⟨by rfl, fun w hSw => ?_⟩) hHeld ?_
    · (try dsimp only at hSw)
      unfold oV6
      go_simp
    try simp only [oV6, Act.put, List.setIfInBounds_toArray, List.set_cons_zero, List.set_cons_succ]
    refine wpAnyH_done (by kernel_rfl) ?_ _
    go_wp2
    go_ret3
    have e := unhide QQ
    subst e
    have e1 : (f : Int) + ((n : Int) + 4) = (f : Int) + (n : Int) + 4 := by omega
    refine ⟨some ⟨g9, 0, none⟩, c9, ?_, ?_, unhide B9⟩
    · simp only [unhide PL]
      rw [← e1]
      rfl
    · simp only [unhide PL]
      exact .of (by have := unhide O9; simpa using this)
  · rw [if_neg E] at HQ2
    subst HQ2
    have ne : ¬ (v0 = z % 256 ∧ v1 = z / 256 % 256 ∧ v2 = z / 65536 % 256 ∧ v3 = z / 16777216 % 256) := by omega
    generalize z % 256 = y0 at *
    generalize z / 256 % 256 = y1 at *
    generalize z / 65536 % 256 = y2 at *
    generalize z / 16777216 % 256 = y3 at *
    have EQ : ∀ w : World, (Op.equalIn 10000 83 (.agg #[.int .u8 v0, .int .u8 v1, .int .u8 v2, .int .u8 v3]) (.agg #[.int .u8 y0, .int .u8 y1, .int .u8 y2, .int .u8 y3])).run Try.prog w = .ok false w := fun w => by
      rw [EqS11.eqSum, show (v0 == y0 && v1 == y1 && v2 == y2 && v3 == y3) = false from by simp; exact fun a b c d => ne ⟨a, b, c, d⟩]
    clear E CI w0 w1 w2 w3 ne
    go_wp2_with fail
    refine wp_region_held_drew (S := (fun w' => w'.cell? ⟨u2.heap.size, 0, none⟩ = some (.int .u8 v0) ∧ w'.cell? ⟨u2.heap.size, 0 + 1, none⟩ = some (.int .u8 v1) ∧ w'.cell? ⟨u2.heap.size, 0 + 2, none⟩ = some (.int .u8 v2) ∧ w'.cell? ⟨u2.heap.size, 0 + 3, none⟩ = some (.int .u8 v3))) (by kernel_rfl) K0 (fun hHeld => ?_)
    refine wpAnyH_take (i := 0) (oi := oU0) (v := .agg #[.int .u8 v0, .int .u8 v1, .int .u8 v2, .int .u8 v3]) rfl (by kernel_rfl) (by kernel_rfl) (by kernel_rfl) (fun _ _ _ h => h) (Or.inl ⟨by rfl, fun w hSw => ?_⟩) hHeld ?_
    · (try dsimp only at hSw)
      unfold oU0
      go_simp
    try simp only [oU0, Act.put, List.setIfInBounds_toArray, List.set_cons_zero, List.set_cons_succ]
    refine wpAnyH_take (i := 1) (oi := oU1) (v := .slice (some ⟨gl, f, none⟩) n c) rfl (by kernel_rfl) (by kernel_rfl) (by kernel_rfl) (fun _ _ _ h => h) (Or.inl ⟨by rfl, fun w hSw => ?_⟩) hHeld ?_
    · (try dsimp only at hSw)
      unfold oU1
      go_simp
    try simp only [oU1, Act.put, List.setIfInBounds_toArray, List.set_cons_zero, List.set_cons_succ]
    refine wpAnyH_ready (rs := [2]) (by kernel_rfl) (by simp) ?_
    refine AllReadyH.cons (o := oU2) rfl (fun K hK => ?_) AllReadyH.nil
    unfold oU2
    go_simp
    go_wp2_with fail
    refine ((unhide SM) _ (by simp [World.drew]; omega) (by exact (unhide AP).below ((one_more u2 (.cells #[.int .u8 v0, .int .u8 v1, .int .u8 v2, .int .u8 v3] 83)).drew.drew) gu)).mono ?_
    rintro e u3 ⟨rfl, b3⟩
    have B3 := hide (show Below (u2.heap.size + 1) (u2.alloc (.cells #[.int .u8 v0, .int .u8 v1, .int .u8 v2, .int .u8 v3] 83)) u3 from by
      have h := b3.mono (B' := u2.heap.size + 1) (by simp [World.drew])
      exact ⟨h.os, h.tape, h.output, h.size, h.block⟩)
    have s3 : u2.heap.size + 1 ≤ u3.heap.size := by have := (unhide B3).size; simpa using this
    have K3 : u3.cell? ⟨u2.heap.size, 0, none⟩ = some (.int .u8 v0) ∧ u3.cell? ⟨u2.heap.size, 0 + 1, none⟩ = some (.int .u8 v1) ∧ u3.cell? ⟨u2.heap.size, 0 + 2, none⟩ = some (.int .u8 v2) ∧ u3.cell? ⟨u2.heap.size, 0 + 3, none⟩ = some (.int .u8 v3) := ⟨((unhide B3).cell (p := ⟨u2.heap.size, 0, none⟩) (by simp)).trans (by simp), ((unhide B3).cell (p := ⟨u2.heap.size, 0 + 1, none⟩) (by simp)).trans (by simp), ((unhide B3).cell (p := ⟨u2.heap.size, 0 + 2, none⟩) (by simp)).trans (by simp), ((unhide B3).cell (p := ⟨u2.heap.size, 0 + 3, none⟩) (by simp)).trans (by simp)⟩
    clear b3 SM
    go_wp2_with fail
    refine hK.out _ _ K3 (fun hHeld => ?_)
    clear hK K
    try simp only [oU2, Act.put, List.setIfInBounds_toArray, List.set_cons_zero, List.set_cons_succ]
    refine wpAnyH_take (i := 3) (oi := oU3) (v := .bool true) rfl (by kernel_rfl) (by kernel_rfl) (by kernel_rfl) (fun _ _ _ h => h) (Or.inl ⟨by rfl, fun w hSw => ?_⟩) hHeld ?_
    · (try dsimp only at hSw)
      unfold oU3
      go_simp
    try simp only [oU3, Act.put, List.setIfInBounds_toArray, List.set_cons_zero, List.set_cons_succ]
    refine wpAnyH_done (by kernel_rfl) ?_ _
    have B4 := hide (show Below w.heap.size w u3 from ((unhide B2).alloc (by omega) (.cells #[.int .u8 v0, .int .u8 v1, .int .u8 v2, .int .u8 v3] 83)).trans ((unhide B3).mono (by omega)))
    have O5 := hide (lit0 u3 w.heap.size (by omega) rfl)
    have B5 := hide ((unhide B4).alloc (by omega) (.cells #[] 5))
    go_wp2
    go_ret3
    exact ⟨_, 0, rfl, .of (unhide O5), unhide B5⟩
end Go.Proofs.Ytcajdiopgaoicaa.IUnseal11
namespace Go.Proofs.Ytcajdiopgaoicaa.ISeg15
open Go.ChangeShapes Go.WideShapes Go.ChangeAt Go.RowKit Fil14 DiskH14 DkH14 SDk14 SOk14 SRd14 Conv15 SegP15 SSeg15 ISg15
open SBytes (AtB)
open SUnseal11 (unsealN)
open StrO15 (Own wp_app lit0)
open App14 (kcell)
open SLess14 (grow_low)
/-- Bytes, nil ones too, as a text. -/
theorem of_bytesO (w : World) (base : Nat) (a : Option Addr) (n c : Nat) (xs : List Int) (h : VOB.Ob w base a n c xs) : (convert 22 9 (.slice a n c)).run Try.prog w = .ok (.string (strOfNums xs)) w := by
  have hl := h.len
  subst hl
  rcases h.either with ⟨rfl, _, rfl⟩ | ⟨g, rfl, o⟩
  · have c0 : c = 0 := by
      rcases h.2 with ⟨h1, _⟩ | ⟨g, c', cur, h1, _⟩
      · simpa using h1
      · simp at h1
    subst c0
    simp [convert, go_sem, Conv.bytesToString]
    first | done | rfl | kernel_rfl
  · exact of_bytes w g c xs o.at
/-- What is read, without asking whether there is such a file. -/
theorem seg_alt (room : Int) (ps : List TF) (seg : Int) : segD room ps seg = if okS seg = true then ((segS (nums (readD room ps seg).1) 6).1, (segS (nums (readD room ps seg).1) 6).2.1) else ([], 0) := by
  unfold segD
  by_cases k : okS seg = true
  · by_cases r : (readD room ps seg).2 = true
    · rw [if_pos ⟨r, k⟩, if_pos k]
    · rw [if_neg (fun h => r h.1), if_pos k]
      have e : (readD room ps seg).1 = ByteArray.empty := by
        unfold readD at r ⊢
        split
        · rename_i q
          rw [if_pos q] at r
          exact absurd rfl r
        · rfl
      rw [e, segS_end (xs := nums ByteArray.empty) (j := 0) (l := []) (p := 0) (by omega) rfl (fun h => by
        have := h.1
        rw [nums_len] at this
        simp at this)]
  · rw [if_neg (fun h => k h.2), if_neg k]
set_option maxRecDepth 100000 in
set_option maxHeartbeats 4000000 in
theorem iSegRead (w : World) (x : Dx) (seg : Int) (hr : RdD w x) (hz : sumZ x.ps ≤ 1048576) (hw : TabF14.Wf seg) :
    Calls Try.prog 9 #[.agg #[.int .i64 x.room, .slice x.a x.ps.length x.c], .int .i64 seg] w fun e w' => ∃ a c, e = .returned (.tuple #[.slice a (segD x.room x.ps seg).1.length c, .int .i64 (segD x.room x.ps seg).2]) ∧ StrO15.Ob w' w.heap.size a (segD x.room x.ps seg).1.length c (segD x.room x.ps seg).1 ∧ Below w.heap.size w w' := by
  have F : ∀ W1, W1 = w.alloc (.cells #[.int .i64 x.room, .slice x.a x.ps.length x.c] 26) → ∀ W2, W2 = W1.alloc (.cells #[] 9) → Wd w W2 x ∧ Own W2 w.heap.size (w.heap.size + 1) 0 0 [] ∧ W2.heap.size = w.heap.size + 2 := by
    intro W1 h1 W2 h2
    have s1 : W1.heap.size = w.heap.size + 1 := by rw [h1]; simp
    have s2 : W2.heap.size = w.heap.size + 2 := by rw [h2]; simp [s1]
    have d1 : Wd w W1 x := by rw [h1]; exact Wd.made hr _
    have b2 : Below W1.heap.size W1 W2 := by rw [h2]; exact one_more _ _
    have o := lit0 W1 w.heap.size (by omega)
    rw [s1, ← h2] at o
    exact ⟨d1.step b2, o, s2⟩
  have G0 := hide (F _ rfl _ rfl)
  have RD := hide (fun u (h : RdD u x) => IRd14.iDiskRead u x seg h hz hw)
  have TS := hide (read_size (room := x.room) (nm := seg) hz)
  have RE := hide (seg_alt x.room x.ps seg)
  generalize segD x.room x.ps seg = rr at *
  generalize readD x.room x.ps seg = rd at *
  obtain ⟨tx, th⟩ := rd
  clear F hr
  go_enter Try.func9, Try.ntmps9
  go_wp2_with fail
  go_step3
  go_wp2_with fail
  generalize (w.alloc (.cells #[.int .i64 x.room, .slice x.a x.ps.length x.c] 26)).alloc (.cells #[] 9) = W at *
  cases sk : okS seg with
  | false =>
    obtain rfl : rr = ([], 0) := by rw [unhide RE, if_neg (by rw [sk]; simp)]
    have SK := hide sk
    clear RE sk
    refine (iSegOk _ seg false (unhide SK)).mono ?_
    rintro e u ⟨rfl, rfl⟩
    go_wp2
    try rw [Exit.noGoto_ret]
    go_ret2
    exact ⟨some ⟨w.heap.size + 1, 0, none⟩, 0, rfl, .of (unhide G0).2.1, (unhide G0).1.b⟩
  | true =>
    have SK := hide sk
    have RR := hide (show rr = ((segS (nums tx) 6).1, (segS (nums tx) 6).2.1) by rw [unhide RE, if_pos sk])
    clear RE sk
    refine (iSegOk _ seg true (unhide SK)).mono ?_
    rintro e u ⟨rfl, rfl⟩
    have c0 := (unhide G0).1.c0
    have c1 := (unhide G0).1.c1
    have lt := (unhide G0).1.lt
    go_wp2_with fail
    refine (unhide RD _ (unhide G0).1.r).mono ?_
    rintro e u ⟨rfl, b1⟩
    have OU := hide ((unhide G0).2.1.below b1 (by have := (unhide G0).2.2; omega))
    have BU := hide ((unhide G0).1.step b1).b
    have us := b1.size
    rw [(unhide G0).2.2] at us
    clear b1 G0 RD c0 c1 lt
    have XL := hide (show (nums tx).length ≤ 1048576 by rw [nums_len]; exact unhide TS)
    obtain ⟨cb, W3, hcb, CV, AB, s3, b3⟩ := to_bytes u tx
    generalize nums tx = xs at *
    have O3 := hide ((unhide OU).below b3 (unhide OU).lt.2)
    have B3 := hide ((unhide BU).trans (b3.mono (unhide BU).size))
    have AB3 := hide AB
    have S0 := hide (show segS xs 0 = ([], 0, true) from rfl)
    clear AB b3 OU BU TS
    have h20 := unhide XL
    have lt3 : u.heap.size < W3.heap.size := by omega
    go_wp2
    go_step3
    go_wp2
    clear CV
    go_loopw [6, 7, 28] (fun o a i wr => ∃ (j g c : Nat) (l : List ByteArray) (p : Int), o = .slice (some ⟨g, 0, none⟩) j c ∧ a = .int .i64 p ∧ i = .int .i64 j ∧ j ≤ 6 ∧ Hid (segS xs j = (l, p, true)) ∧ Hid (Own wr w.heap.size g j c l) ∧ Hid (AtB wr u.heap.size xs) ∧ u.heap.size < wr.heap.size ∧ g ≠ u.heap.size ∧ Hid (Below w.heap.size w wr)) (fun o _ _ _ => 6 - (match o with | .slice _ n _ => n | _ => 0))
    case atStart => exact ⟨0, w.heap.size + 1, 0, [], 0, rfl, rfl, rfl, by omega, S0, O3, AB3, lt3, by omega, B3⟩
    case round =>
      clear S0 O3 AB3 lt3 B3
      obtain ⟨j, g, c, l, p, rfl, rfl, rfl, hj, HS, HO, HA, hl, gn, HB⟩ := hrel
      by_cases j6 : j < 6
      case neg =>
        have jb : decide ((j : Int) < 6) = false := decide_eq_false (by omega)
        have E := hide (show rr = (l, p) ∧ l.length = j by
          refine ⟨?_, segS_all (unhide HS)⟩
          obtain rfl : j = 6 := by omega
          rw [unhide RR, unhide HS])
        clear j6
        go_wp2
        try rw [Exit.noGoto_ret]
        go_ret2
        rw [(unhide E).1]
        exact ⟨some ⟨g, 0, none⟩, c, by rw [(unhide E).2]; rfl, .of (by rw [(unhide E).2]; exact unhide HO), unhide HB⟩
      have jb : (j : Int) < 6 := by omega
      have pin := RTG15.segS_in (unhide HS)
      have UN := hide (IUnseal11.iUnseal wr u.heap.size cb xs p h20 hcb (by omega) hl (unhide HA))
      clear pin
      have GO := hide (fun (b : (unsealN xs p).2.2 = 0) => segS_go (unhide HS) (by have := RTG15.unseal_low b; omega) b)
      have ST := hide (fun (b : ¬ (unsealN xs p).2.2 = 0) => segS_end j6 (unhide HS) (fun h => b h.2))
      generalize unsealN xs p = un at *
      obtain ⟨ur, uq, uc⟩ := un
      go_wp2_with fail
      refine (unhide UN).mono ?_
      rintro e w4 ⟨a4, c4, rfl, o4, b4⟩
      have O4 := hide ((unhide HO).below b4 (unhide HO).lt.2)
      have A4 := hide (show AtB w4 u.heap.size xs from fun i hi => ⟨(b4.cell (p := ⟨u.heap.size, i, none⟩) hl).trans ((unhide HA) i hi).1, ((unhide HA) i hi).2⟩)
      have B4 := hide ((unhide HB).trans (b4.mono (unhide HB).size))
      have R4 := hide o4
      have z4 := b4.size
      clear b4 o4 UN HO HA HB
      by_cases cz : uc = 0
      case neg =>
        have cb' : (uc == 0) = false := by simpa using cz
        have E := hide (show rr = (l, p) ∧ l.length = j from ⟨by rw [unhide RR, (unhide ST) cz], segS_all (unhide HS)⟩)
        clear cz GO ST
        go_wp2
        try rw [Exit.noGoto_ret]
        go_ret2
        rw [(unhide E).1]
        exact ⟨some ⟨g, 0, none⟩, c, by rw [(unhide E).2]; rfl, .of (by rw [(unhide E).2]; exact unhide O4), unhide B4⟩
      subst cz
      have NS := hide ((unhide GO) rfl)
      clear GO ST
      have CB := of_bytesO w4 wr.heap.size a4 ur.length c4 ur (unhide R4)
      try simp only at NS CB
      generalize strOfNums ur = rs at *
      have LB := one_more w4 (.cells #[.string rs] 9)
      have OL := hide ((unhide O4).below LB (unhide O4).lt.2)
      have AL := hide (show AtB (w4.alloc (.cells #[.string rs] 9)) u.heap.size xs from fun i hi => ⟨(LB.cell (p := ⟨u.heap.size, i, none⟩) (by show u.heap.size < w4.heap.size; omega)).trans ((unhide A4) i hi).1, ((unhide A4) i hi).2⟩)
      have BL := hide ((unhide B4).trans (LB.mono (unhide B4).size))
      have CL := hide (show (w4.alloc (.cells #[.string rs] 9)).cell? ⟨w4.heap.size, 0, none⟩ = some (.string rs) by simp [go_sem])
      have gl := hide (unhide O4).lt
      clear LB
      go_wp2_with (first | (at_builtin; refine wp_app _ rfl _ _ rfl w.heap.size (.slice (some ⟨g, 0, none⟩) j c) j l w4.heap.size rs rfl rfl (unhide OL) (unhide CL) (by omega) (unhide BL).size ?_; intro g9 c9 w9 o9 gr9 loc; have LC := hide loc; clear loc; have O9 := hide o9; have G9 := hide gr9; clear o9 gr9) | go_in)
      go_roundw
      case rel =>
        have gl1 := (unhide gl).1
        have sz9 := (unhide G9).size
        simp at sz9
        have gn9 : g9 ≠ u.heap.size := by
          rcases unhide LC with q | q
          · have q' : g9 = g := Option.some.inj (show some g9 = some g from q)
            omega
          · simp at q
            omega
        refine ⟨j + 1, g9, c9, l ++ [rs], uq, rfl, rfl, by go_num, by omega, NS, O9, hide (fun i hi => ⟨(kcell (unhide G9) i (by simp; omega) (show u.heap.size ≠ g from fun e => gn e.symm)).trans ((unhide AL) i hi).1, ((unhide AL) i hi).2⟩), by omega, gn9, hide (grow_low (unhide BL) (unhide G9) ⟨gl1, (unhide BL).size⟩)⟩
      case measure => simp; omega
end Go.Proofs.Ytcajdiopgaoicaa.ISeg15
