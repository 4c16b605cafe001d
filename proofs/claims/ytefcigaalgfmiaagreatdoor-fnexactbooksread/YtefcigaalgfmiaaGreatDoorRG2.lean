/- Texts of one proof, one behind the other: Look, IBalsFit, AccountSOk, InstrSOk, AccountHelp, AccountMark, InstrHelp, InstrMark, BalHelp, BalHeld, LotHelp, LotHeld, TradeHelp, TradeHeld, BHelp, LotApp, SSplit, BMemV13, BkEq, SRead13L, VB13, ByteH, VOB, SBytes, Law11, LawR13, SPut11, IRd11, SPuts11, SGets11, VOI, IGets11, Errs, IInto13, SRows13. -/
import Derived.Test.YtefcigaalgfmiaaGreatDoorRows
import Derived.Test.YtefcigaalgfmiaaGreatDoorCards
import Derived.Test.YtefcigaalgfmiaaGreatDoorTie
import Derived.Test.YtefcigaalgfmiaaGreatDoorRG1
import Derived.Deep.RegionHeld3
import Derived.Maps.AppendAt
import Derived.WalkKit
import Derived.ProofKit
import Derived.OpenShut
import Derived.Below
import Derived.BigQuiet
import Derived.Lib.EndianBits
import Derived.LaidEql
import Derived.Stop.Asserts
import Derived.RowKitTokens
import Derived.WalkLawsBesides
set_option linter.unusedVariables false
set_option linter.unusedSimpArgs false
namespace Go.Proofs.YtefcigaalgfmiaaGreatDoor.Look
open Go.ChangeShapes Go.WideShapes Go.ChangeAt Go.RowKit Bals Triples Cmp SOk3 IOk3 Tab
theorem drop_next {ps : List T3} {k : Nat} (h : k < ps.length) : ps.drop k = el3 ps k :: ps.drop (k + 1) := by
  rw [List.drop_eq_getElem_cons h]
  simp [el3, List.getD, h]
theorem val_hit {ps : List T3} {k : Nat} {a i : Int} (h : k < ps.length) (e : (el3 ps k).1 = a ∧ (el3 ps k).2.1 = i) : val (ps.drop k) a i = (el3 ps k).2.2 := by
  rw [drop_next h]
  unfold val
  rw [if_pos e]
theorem val_miss {ps : List T3} {k : Nat} {a i : Int} (h : k < ps.length) (e : ¬ ((el3 ps k).1 = a ∧ (el3 ps k).2.1 = i)) : val (ps.drop k) a i = val (ps.drop (k + 1)) a i := by
  rw [drop_next h, val, if_neg e]
set_option maxRecDepth 100000 in
theorem sOf (w : World) (g n cap : Nat) (ps : List T3) (a i : Int) (hl : ps.length = n) (h20 : n ≤ 1048576) (h : At3 w g ps) :
    Calls Tryz.prog 61 #[.slice (some ⟨g, 0, none⟩) n cap, .int .i64 a, .int .i64 i] w fun e w' => e = .returned (.int .i64 (val ps a i)) ∧ w' = w := by
  go_enter Tryz.func61, Tryz.ntmps61
  go_wp2
  go_loop [7] (fun j => ∃ (k : Nat), k ≤ n ∧ j = .int .i64 k ∧ Hid (val ps a i = val (ps.drop k) a i)) (fun j => n - (intOf j).toNat)
  case atStart => exact ⟨0, by omega, rfl, hide rfl⟩
  case round =>
    obtain ⟨k, hk, rfl, HV⟩ := hrel
    by_cases t : k < n
    · obtain ⟨e1, e2, e3⟩ := h k (by omega)
      have HIT := hide (val_hit (ps := ps) (k := k) (a := a) (i := i) (by omega))
      have MISS := hide (val_miss (ps := ps) (k := k) (a := a) (i := i) (by omega))
      clear h
      generalize (el3 ps k).1 = x at *
      generalize (el3 ps k).2.1 = y at *
      generalize (el3 ps k).2.2 = z at *
      by_cases c1 : x = a
      · by_cases c2 : y = i
        · have V := hide ((unhide HV).trans ((unhide HIT) ⟨c1, c2⟩))
          clear HIT MISS HV
          subst c1 c2
          go_wp2
          go_ret
          exact ⟨by rw [unhide V]; rfl, rfl⟩
        · have V := hide ((unhide HV).trans ((unhide MISS) (fun r => c2 r.2)))
          clear HIT MISS HV
          have c2b : (y == i) = false := by simpa using c2
          subst c1
          go_wp2
          go_round
          case rel => exact ⟨k + 1, by omega, by go_num, V⟩
          case measure => simp [intOf]; omega
      · have V := hide ((unhide HV).trans ((unhide MISS) (fun r => c1 r.1)))
        clear HIT MISS HV
        have c1b : (x == a) = false := by simpa using c1
        go_wp2
        go_round
        case rel => exact ⟨k + 1, by omega, by go_num, V⟩
        case measure => simp [intOf]; omega
    · obtain rfl : k = n := by omega
      have V := hide ((unhide HV).trans (show val (ps.drop k) a i = 0 by rw [List.drop_of_length_le (by omega)]; rfl))
      clear HV h
      go_wp2
      go_ret
      exact ⟨by rw [unhide V]; rfl, rfl⟩
theorem val_more (p : T3) : ∀ (l : List T3), (∀ q ∈ l, Bef q p) → ∀ a i, val (l ++ [p]) a i = upd (val l) p.1 p.2.1 p.2.2 a i
  | [], _, a, i => by
    unfold upd
    simp only [List.nil_append, val]
    by_cases e : p.1 = a ∧ p.2.1 = i
    · rw [if_pos e, if_pos ⟨e.1.symm, e.2.symm⟩]
    · rw [if_neg e, if_neg (fun r => e ⟨r.1.symm, r.2.symm⟩)]
  | q :: r, h, a, i => by
    have ih := val_more p r (fun x hx => h x (List.mem_cons_of_mem _ hx)) a i
    have b := h q List.mem_cons_self
    unfold upd at ih ⊢
    simp only [List.cons_append, val, ih]
    by_cases e : q.1 = a ∧ q.2.1 = i
    · rw [if_pos e, if_pos e, if_neg (fun r => by unfold Bef at b; omega)]
    · rw [if_neg e, if_neg e]
theorem val_take {ps : List T3} (h : Right ps) {k : Nat} (hk : k < ps.length) : ∀ a i, val (ps.take (k + 1)) a i = upd (val (ps.take k)) (el3 ps k).1 (el3 ps k).2.1 (el3 ps k).2.2 a i := by
  rw [take_next hk]
  refine val_more _ _ (fun q hq => ?_)
  obtain ⟨j, hj, rfl⟩ := mem_getD hq
  have hj' : j < k := by simp at hj; omega
  have := h.asc k j hj' hk
  simpa [el3, List.getD, hj', show j < ps.length by omega] using this
theorem sTold (x : Int) (b c : Bool) (r : Int) (w : World) (h : (b = true ∧ Amt x ∧ r = x ∧ c = true) ∨ (¬ (b = true ∧ Amt x) ∧ r = 0 ∧ c = false)) :
    Calls Tryz.prog 72 #[.int .i64 x, .bool b] w fun e w' => e = .returned (.tuple #[.int .i64 r, .bool c]) ∧ w' = w := by
  obtain ⟨d, D⟩ := says_of (Amt x)
  cases b
  · rcases h with ⟨h1, _⟩ | ⟨_, rfl, rfl⟩
    · cases h1
    · go_enter Tryz.func72, Tryz.ntmps72
      go_wp2
      go_ret2
      exact ⟨rfl, rfl⟩
  · cases d
    · rcases h with ⟨_, h1, _⟩ | ⟨_, rfl, rfl⟩
      · exact absurd h1 D.no
      · go_enter Tryz.func72, Tryz.ntmps72
        go_wp2_with fail
        refine (sAmt x false _ D).mono ?_
        rintro e w1 ⟨rfl, rfl⟩
        go_wp2
        go_ret2
        exact ⟨rfl, rfl⟩
    · rcases h with ⟨_, h1, rfl, rfl⟩ | ⟨h1, _⟩
      · clear h1
        go_enter Tryz.func72, Tryz.ntmps72
        go_wp2_with fail
        refine (sAmt r true _ D).mono ?_
        rintro e w1 ⟨rfl, rfl⟩
        go_wp2
        go_ret2
        exact ⟨rfl, rfl⟩
      · exact absurd ⟨rfl, D.yes⟩ h1
theorem iOnly (x : Int) (c : Bool) (r : Int) (w : World) (h : (Amt x ∧ r = x ∧ c = true) ∨ (¬ Amt x ∧ r = 0 ∧ c = false)) :
    Calls Tryz.prog 105 #[.int .i64 x] w fun e w' => e = .returned (.tuple #[.int .i64 r, .bool c]) ∧ w' = w := by
  obtain ⟨d, D⟩ := says_of (Amt x)
  cases d
  · rcases h with ⟨h1, _⟩ | ⟨_, rfl, rfl⟩
    · exact absurd h1 D.no
    · go_enter Tryz.func105, Tryz.ntmps105
      go_wp2_with fail
      refine (iAmt x false _ D).mono ?_
      rintro e w1 ⟨rfl, rfl⟩
      go_wp2
      go_ret2
      exact ⟨rfl, rfl⟩
  · rcases h with ⟨h1, rfl, rfl⟩ | ⟨h1, _⟩
    · clear h1
      go_enter Tryz.func105, Tryz.ntmps105
      go_wp2_with fail
      refine (iAmt r true _ D).mono ?_
      rintro e w1 ⟨rfl, rfl⟩
      go_wp2
      go_ret2
      exact ⟨rfl, rfl⟩
    · exact absurd D.yes h1
/-- The sums so far stay far within 64 bits. -/
theorem sum_near {ps : List T3} (i : Int) (hl : ps.length ≤ 160) (h : ∀ j, j < ps.length → Amt (el3 ps j).2.2) (k : Nat) (hk : k ≤ ps.length) : -200000000000000000 ≤ sumI (ps.take k) i ∧ sumI (ps.take k) i ≤ 200000000000000000 := by
  have := sumI_bound i h k hk
  omega
set_option maxRecDepth 100000 in
theorem sSum (w : World) (g n cap : Nat) (ps : List T3) (i r : Int) (c : Bool) (hl : ps.length = n) (h20 : n ≤ 1048576) (hg : g < w.heap.size) (h : At3 w g ps) (hs : IsSum ps i r c) :
    Calls Tryz.prog 58 #[.slice (some ⟨g, 0, none⟩) n cap, .int .i64 i] w fun e w' => e = .returned (.tuple #[.int .i64 r, .bool c]) ∧ Below w.heap.size w w' := by
  obtain ⟨ok, OK⟩ := says_of (Right ps)
  have H := hide h
  have HS := hide hs
  clear h hs
  go_enter Tryz.func58, Tryz.ntmps58
  go_wp2
  go_loopw [6, 7] (fun s j wr => ∃ (k : Nat), k ≤ n ∧ j = .int .i64 k ∧ s = .int .i64 (sumI (ps.take k) i) ∧ Below w.heap.size w wr ∧ (ok = false → k = 0)) (fun _ j _ => n - (intOf j).toNat)
  case atStart => exact ⟨0, by omega, rfl, rfl, Below.refl _ _, fun _ => rfl⟩
  case round =>
    obtain ⟨k, hk, rfl, rfl, hb, hf⟩ := hrel
    have A := hide ((unhide H).below hb hg)
    have HB := hide hb
    have sz := hb.size
    clear hb
    cases ok
    · obtain rfl : k = 0 := hf rfl
      by_cases t : 0 < n
      · go_wp2_with fail
        refine (sOk _ g n cap ps false hl h20 (by omega) (unhide A) OK).mono ?_
        rintro e w1 ⟨rfl, b1⟩
        have A1 := hide ((unhide A).below b1 (by omega))
        have B1 := hide (next (unhide HB) b1)
        have s1 := b1.size
        clear b1
        have z0 : sumI [] i = 0 := rfl
        rw [z0]
        go_wp2_with fail
        refine (sOk _ g n cap ps false hl h20 (by omega) (unhide A1) OK).mono ?_
        rintro e w2 ⟨rfl, b2⟩
        have B2 := hide (next (unhide B1) b2)
        clear b2
        go_wp2_with fail
        refine (sTold 0 false c r _ (by
          rcases unhide HS with ⟨h1, _⟩ | ⟨_, h2, h3⟩
          · exact absurd h1 OK.no
          · exact .inr ⟨fun q => (by have := q.1; cases this), h2, h3⟩)).mono ?_
        rintro e w3 ⟨rfl, rfl⟩
        go_wp2
        go_ret2
        exact ⟨rfl, unhide B2⟩
      · exact absurd (show Right ps from ⟨by omega, fun i hi => by omega⟩) OK.no
    · have RB := hide (fun k hk => sum_near (ps := ps) i OK.yes.1 (fun j hj => (OK.yes.2 j hj).2.2.1) k hk)
      by_cases t : k < n
      · go_wp2_with fail
        refine (sOk _ g n cap ps true hl h20 (by omega) (unhide A) OK).mono ?_
        rintro e w1 ⟨rfl, b1⟩
        obtain ⟨e1, e2, e3⟩ := ((unhide A).below b1 (by omega)) k (by omega)
        have B1 := hide (next (unhide HB) b1)
        clear b1
        have SN := hide (sumI_next (ps := ps) (k := k) (by omega) i)
        have R1 := hide ((unhide RB) (k + 1) (by omega))
        rw [unhide SN] at R1
        generalize (el3 ps k).1 = x at *
        generalize (el3 ps k).2.1 = y at *
        generalize (el3 ps k).2.2 = z at *
        generalize sumI (ps.take k) i = S at *
        by_cases c1 : y = i
        · rw [if_pos c1] at SN R1
          have R2 := unhide R1
          have wr1 : IntKind.i64.wrap (S + z) = S + z := by rw [IntKind.wrap_i64]; omega
          clear R2
          subst c1
          go_wp2
          go_roundw
          case rel => exact ⟨k + 1, by omega, by go_num, by rw [unhide SN], unhide B1, fun q => by cases q⟩
          case measure => simp [intOf]; omega
        · rw [if_neg c1] at SN R1
          have c1b : (y == i) = false := by simpa using c1
          have SN := hide ((unhide SN).trans (Int.add_zero S))
          go_wp2
          go_roundw
          case rel => exact ⟨k + 1, by omega, by go_num, by rw [unhide SN], unhide B1, fun q => by cases q⟩
          case measure => simp [intOf]; omega
      · obtain rfl : k = n := by omega
        have e0 : sumI (ps.take k) i = sumI ps i := by rw [List.take_of_length_le (by omega)]
        rw [e0]
        clear e0
        go_wp2_with fail
        refine (sOk _ g k cap ps true hl h20 (by omega) (unhide A) OK).mono ?_
        rintro e w2 ⟨rfl, b2⟩
        have B2 := hide (next (unhide HB) b2)
        clear b2
        go_wp2_with fail
        refine (sTold (sumI ps i) true c r _ (by
          rcases unhide HS with ⟨h1, h2, h3, h4⟩ | ⟨h1, h2, h3⟩
          · exact .inl ⟨rfl, h2, h3, h4⟩
          · exact .inr ⟨fun q => h1 ⟨OK.yes, q.2⟩, h2, h3⟩)).mono ?_
        rintro e w3 ⟨rfl, rfl⟩
        go_wp2
        go_ret2
        exact ⟨rfl, unhide B2⟩
set_option maxRecDepth 100000 in
theorem iSum (w : World) (g n cap : Nat) (ps : List T3) (i r : Int) (c : Bool) (hl : ps.length = n) (h20 : n ≤ 1048576) (hg : g < w.heap.size) (h : At3 w g ps) (hs : IsSum ps i r c) :
    Calls Tryz.prog 82 #[.slice (some ⟨g, 0, none⟩) n cap, .int .i64 i] w fun e w' => e = .returned (.tuple #[.int .i64 r, .bool c]) ∧ Below w.heap.size w w' := by
  obtain ⟨ok, OK⟩ := says_of (Right ps)
  have H := hide h
  have HS := hide hs
  clear h hs
  go_enter Tryz.func82, Tryz.ntmps82
  go_wp2_with fail
  refine (iOk _ g n cap ps ok hl h20 hg (unhide H) OK).mono ?_
  rintro e w1 ⟨rfl, b1⟩
  have B1 := hide b1
  clear b1
  cases ok
  · obtain ⟨rfl, rfl⟩ : r = 0 ∧ c = false := by
      rcases unhide HS with ⟨h1, _⟩ | ⟨_, h2, h3⟩
      · exact absurd h1 OK.no
      · exact ⟨h2, h3⟩
    go_wp2
    go_ret2
    exact ⟨rfl, unhide B1⟩
  have RB := hide (fun k hk => sum_near (ps := ps) i OK.yes.1 (fun j hj => (OK.yes.2 j hj).2.2.1) k hk)
  go_wp2
  go_loopw [6, 8, 14] (fun s _ j wr => ∃ (k : Nat), k ≤ n ∧ j = .int .i64 k ∧ s = .int .i64 (sumI (ps.take k) i) ∧ Below w.heap.size w wr) (fun _ _ j _ => n - (intOf j).toNat)
  case atStart => exact ⟨0, by omega, rfl, rfl, unhide B1⟩
  case round =>
    obtain ⟨k, hk, rfl, rfl, hb⟩ := hrel
    have A := hide ((unhide H).below hb hg)
    have HB := hide hb
    clear hb
    by_cases t : k < n
    · obtain ⟨e1, e2, e3⟩ := (unhide A) k (by omega)
      have SN := hide (sumI_next (ps := ps) (k := k) (by omega) i)
      have R1 := hide ((unhide RB) (k + 1) (by omega))
      rw [unhide SN] at R1
      generalize (el3 ps k).1 = x at *
      generalize (el3 ps k).2.1 = y at *
      generalize (el3 ps k).2.2 = z at *
      generalize sumI (ps.take k) i = S at *
      have NB := hide ((unhide HB).alloc (unhide HB).size (.cells #[.int .i64 x, .int .i64 y, .int .i64 z] 46))
      by_cases c1 : y = i
      · rw [if_pos c1] at SN R1
        have R2 := unhide R1
        have wr1 : IntKind.i64.wrap (S + z) = S + z := by rw [IntKind.wrap_i64]; omega
        clear R2
        subst c1
        go_wp2
        go_roundw
        case rel => exact ⟨k + 1, by omega, by go_num, by rw [unhide SN], unhide NB⟩
        case measure => simp [intOf]; omega
      · rw [if_neg c1] at SN R1
        have c1b : (y == i) = false := by simpa using c1
        have SN := hide ((unhide SN).trans (Int.add_zero S))
        go_wp2
        go_roundw
        case rel => exact ⟨k + 1, by omega, by go_num, by rw [unhide SN], unhide NB⟩
        case measure => simp [intOf]; omega
    · obtain rfl : k = n := by omega
      have e0 : sumI (ps.take k) i = sumI ps i := by rw [List.take_of_length_le (by omega)]
      rw [e0]
      clear e0
      go_wp2_with fail
      refine (iOnly (sumI ps i) c r _ (by
        rcases unhide HS with ⟨h1, h2, h3, h4⟩ | ⟨h1, h2, h3⟩
        · exact .inl ⟨h2, h3, h4⟩
        · exact .inr ⟨fun q => h1 ⟨OK.yes, q⟩, h2, h3⟩)).mono ?_
      rintro e w3 ⟨rfl, rfl⟩
      go_wp2
      go_ret2
      exact ⟨rfl, unhide HB⟩
theorem sum_is (ps : List T3) (i : Int) : ∃ r c, IsSum ps i r c := by
  by_cases h : Right ps ∧ Amt (sumI ps i)
  · exact ⟨_, _, .inl ⟨h.1, h.2, rfl, rfl⟩⟩
  · exact ⟨_, _, .inr ⟨h, rfl, rfl⟩⟩
end Go.Proofs.YtefcigaalgfmiaaGreatDoor.Look
namespace Go.Proofs.YtefcigaalgfmiaaGreatDoor.IBalsFit
open Go.ChangeShapes Go.WideShapes Go.ChangeAt Go.RowKit BMem Bks IRead IHave ITrade ILists
open Lots (Says says_of NoOk)
open Bals (T3 el3 val sumI)
open Triples (At3 Holds3)
theorem all_one {p : Int → Prop} {y : Int} {b : Bool} (h : Says b (p y)) : Says b (∀ z ∈ [y], p z) := by
  constructor
  · intro e z hz
    simp at hz
    subst hz
    exact h.1 e
  · intro e
    exact h.2 (e y (by simp))
/-- What a call leaves of books in a block, and of a struct of three numbers in another one. -/
structure St (w W : World) (x : Bx) : Prop where
  r : Rd W x
  c : Cl W w.heap.size x
  b : Below w.heap.size w W
  s : w.heap.size < W.heap.size
theorem St.step {w W W' : World} {x : Bx} (h : St w W x) (k : Below W.heap.size W W') : St w W' x :=
  ⟨h.r.below k, h.c.below k h.s, h.b.trans (k.mono (Nat.le_of_lt h.s)), Nat.lt_of_lt_of_le h.s k.size⟩
theorem St.start {w : World} {x : Bx} (h : Rd w x) (e : TypeId) : St w (w.alloc (.cells #[.slice (some ⟨x.ga, 0, none⟩) x.b.ac.length x.ca, .slice (some ⟨x.gi, 0, none⟩) x.b.ic.length x.ci, .slice (some ⟨x.gb, 0, none⟩) x.b.bs.length x.cb, .slice (some ⟨x.gl, 0, none⟩) x.b.ls.length x.cl, .slice (some ⟨x.gt, 0, none⟩) x.b.ts.length x.ct, .int .i64 x.b.lot] e)) x :=
  ⟨h.alloc _, boxed w x e, (Below.refl w.heap.size w).alloc (Nat.le_refl _) _, by simp⟩
theorem one_more (w : World) (o : Obj) : Below w.heap.size w (w.alloc o) := (Below.refl _ _).alloc (Nat.le_refl _) _
end Go.Proofs.YtefcigaalgfmiaaGreatDoor.IBalsFit
namespace Go.Proofs.YtefcigaalgfmiaaGreatDoor.AccountSOk
open Go.ChangeShapes Go.WideShapes Go.ChangeAt Go.RowKit Pairs Chart
/-- b tells whether x is between two numbers. -/
def Tells (b : Bool) (x lo hi : Int) : Prop := b = true ↔ lo ≤ x ∧ x ≤ hi
theorem tells_of (x lo hi : Int) : ∃ b, Tells b x lo hi := bool_of _
/-- Between two numbers. -/
theorem sIn (x lo hi : Int) (b : Bool) (w : World) (hb : Tells b x lo hi) :
    Calls Tryz.prog 38 #[.int .i64 x, .int .i64 lo, .int .i64 hi] w fun e w' => e = .returned (.bool b) ∧ w' = w := by
  cases b
  · have H := hide (show lo ≤ x → ¬ x ≤ hi from fun h1 h2 => Bool.noConfusion ((unhide hb).2 ⟨h1, h2⟩))
    clear hb
    by_cases h1 : lo ≤ x
    · have h2 := (unhide H) h1
      clear H
      go_enter Tryz.func38, Tryz.ntmps38
      go_wp2
      go_ret
      exact ⟨rfl, rfl⟩
    · clear H
      go_enter Tryz.func38, Tryz.ntmps38
      go_wp2
      go_ret
      exact ⟨rfl, rfl⟩
  · obtain ⟨h1, h2⟩ := (unhide hb).1 rfl
    clear hb
    go_enter Tryz.func38, Tryz.ntmps38
    go_wp2
    go_ret
    exact ⟨rfl, rfl⟩
theorem sNo (x : Int) (b : Bool) (w : World) (hb : Tells b x 1 1000) :
    Calls Tryz.prog 52 #[.int .i64 x] w fun e w' => e = .returned (.bool b) ∧ w' = w := by
  go_enter Tryz.func52, Tryz.ntmps52
  go_wp2_with fail
  refine (sIn x 1 1000 b _ hb).mono ?_
  rintro e w' ⟨rfl, rfl⟩
  go_wp2
  go_ret
  exact ⟨rfl, rfl⟩
theorem drewN_more {w wr : World} (h : ∃ q, wr = w.drewN q) (m : Nat) : ∃ q, wr.drewN m = w.drewN q := by
  obtain ⟨q, rfl⟩ := h
  exact ⟨q + m, World.drewN_drewN ..⟩
set_option maxRecDepth 100000 in
set_option maxHeartbeats 2000000 in
theorem sOk (w : World) (g n cap : Nat) (ps : List (Int × Int)) (ok : Bool) (hl : ps.length = n) (h20 : n ≤ 1048576) (h : At w g ps) (hok : Says ok 20 4 ps) :
    Calls Tryz.prog 33 #[.slice (some ⟨g, 0, none⟩) n cap] w fun e w' => e = .returned (.bool ok) ∧ ∃ q, w' = w.drewN q := by
  by_cases nn : (20 : Int) < (n : Int)
  · obtain rfl : ok = false := hok.not (fun r => by have := r.1; omega)
    clear hok h
    go_enter Tryz.func33, Tryz.ntmps33
    go_wp2
    go_ret
    exact ⟨rfl, 0, rfl⟩
  go_enter Tryz.func33, Tryz.ntmps33
  go_wp2
  go_loopw [3] (fun i wr => ∃ (k : Nat), k ≤ n ∧ i = .int .i64 k ∧ At wr g ps ∧ Hid (∃ q, wr = w.drewN q) ∧ Hid (∀ i, i < k → RowOk 4 ps i)) (fun i _ => n - (intOf i).toNat)
  case atStart => exact ⟨0, by omega, rfl, h, hide ⟨0, rfl⟩, hide (fun i hi => absurd hi (by omega))⟩
  case round =>
    clear h
    obtain ⟨k, hk, rfl, h, HQ, HG⟩ := hrel
    by_cases t : k < n
    · obtain ⟨e1, e2⟩ := h k (by omega)
      have e3 : 0 < k → wr.cell? ⟨g, (k - 1) * 2, none⟩ = some (.int .i64 (el ps (k - 1)).1) := fun k0 => (h (k - 1) (by omega)).1
      obtain ⟨b1, B1⟩ := tells_of (el ps k).1 1 1000
      obtain ⟨b2, B2⟩ := tells_of (el ps k).2 1 4
      have ROW := hide (show RowOk 4 ps k ↔ (b1 = true) ∧ (b2 = true) ∧ (0 < k → (el ps (k - 1)).1 < (el ps k).1) from by unfold Tells at B1 B2; rw [B1, B2]; exact Iff.rfl)
      have HA := hide h
      clear h
      have BAD := hide (show ¬ RowOk 4 ps k → ok = false from fun hr => hok.not (fun r => hr (r.2 k (by omega))))
      have GOOD := hide (show RowOk 4 ps k → ∀ i, i < k + 1 → RowOk 4 ps i from fun hr i hi => by
        by_cases e : i = k
        · subst e; exact hr
        · exact (unhide HG) i (by omega))
      generalize (el ps k).1 = x at *
      generalize (el ps k).2 = y at *
      cases b1
      · have OKF := hide ((unhide BAD) (fun hr => by have := ((unhide ROW).1 hr).1; cases this))
        clear BAD GOOD ROW e3
        go_wp2_with fail
        go_quiet (first | (go_at_call 52; refine Calls.quiet_of_same (sNo _ false _ B1)))
        go_wp2
        go_ret
        exact ⟨by rw [unhide OKF]; rfl, drewN_more (unhide HQ) _⟩
      · cases b2
        · have OKF := hide ((unhide BAD) (fun hr => by have := ((unhide ROW).1 hr).2.1; cases this))
          clear BAD GOOD ROW e3
          go_wp2_with fail
          go_quiet (first | (go_at_call 52; refine Calls.quiet_of_same (sNo _ true _ B1)) | (go_at_call 38; refine Calls.quiet_of_same (sIn _ _ _ false _ B2)))
          go_wp2
          go_ret
          exact ⟨by rw [unhide OKF]; rfl, drewN_more (unhide HQ) _⟩
        · by_cases k0 : 0 < k
          · have e3 := e3 k0
            have k1 : (0 : Int) < (k : Int) := by omega
            have k2 : (0 : Int) ≤ (k : Int) - 1 := by omega
            have k3 : ((k : Int) - 1).toNat = k - 1 := by omega
            by_cases lt : (el ps (k - 1)).1 < x
            · have GO := hide ((unhide GOOD) ((unhide ROW).2 ⟨rfl, rfl, fun _ => lt⟩))
              clear BAD GOOD ROW
              have ge : ¬ x ≤ (el ps (k - 1)).1 := by omega
              generalize (el ps (k - 1)).1 = z at *
              go_wp2_with fail
              go_quiet (first | (go_at_call 52; refine Calls.quiet_of_same (sNo _ true _ B1)) | (go_at_call 38; refine Calls.quiet_of_same (sIn _ _ _ true _ B2)))
              go_wp2
              go_roundw
              case rel => exact ⟨k + 1, by omega, by go_num, unhide HA, hide (drewN_more (unhide HQ) _), GO⟩
              case measure => simp [intOf]; omega
            · have OKF := hide ((unhide BAD) (fun hr => lt (((unhide ROW).1 hr).2.2 k0)))
              clear BAD GOOD ROW
              have ge : x ≤ (el ps (k - 1)).1 := by omega
              generalize (el ps (k - 1)).1 = z at *
              go_wp2_with fail
              go_quiet (first | (go_at_call 52; refine Calls.quiet_of_same (sNo _ true _ B1)) | (go_at_call 38; refine Calls.quiet_of_same (sIn _ _ _ true _ B2)))
              go_wp2
              go_ret
              exact ⟨by rw [unhide OKF]; rfl, drewN_more (unhide HQ) _⟩
          · obtain rfl : k = 0 := by omega
            have GO := hide ((unhide GOOD) ((unhide ROW).2 ⟨rfl, rfl, fun h0 => absurd h0 k0⟩))
            clear BAD GOOD ROW e3
            go_wp2_with fail
            go_quiet (first | (go_at_call 52; refine Calls.quiet_of_same (sNo _ true _ B1)) | (go_at_call 38; refine Calls.quiet_of_same (sIn _ _ _ true _ B2)))
            go_wp2
            go_roundw
            case rel => exact ⟨1, by omega, by go_num, unhide HA, hide (drewN_more (unhide HQ) _), GO⟩
            case measure => simp [intOf]; omega
    · obtain rfl : k = n := by omega
      obtain rfl : ok = true := hok.of ⟨by omega, by rw [hl]; exact unhide HG⟩
      clear h hok
      go_wp2
      go_ret
      exact ⟨rfl, unhide HQ⟩
set_option maxRecDepth 100000 in
set_option maxHeartbeats 2000000 in
theorem sKind (w : World) (g n cap : Nat) (ps : List (Int × Int)) (no : Int) (hl : ps.length = n) (h20 : n ≤ 1048576) (h : At w g ps) :
    Calls Tryz.prog 41 #[.slice (some ⟨g, 0, none⟩) n cap, .int .i64 no] w fun e w' => ∃ r, IsKind 20 4 ps no r ∧ e = .returned (.int .i64 r) ∧ ∃ q, w' = w.drewN q := by
  obtain ⟨ok, OK⟩ := says_of 20 4 ps
  go_enter Tryz.func41, Tryz.ntmps41
  go_wp2
  go_loopw [5] (fun i wr => ∃ (k : Nat), k ≤ n ∧ i = .int .i64 k ∧ At wr g ps ∧ Hid (∃ q, wr = w.drewN q) ∧ Hid (∀ i, i < k → (el ps i).1 ≠ no)) (fun i _ => n - (intOf i).toNat)
  case atStart => exact ⟨0, by omega, rfl, h, hide ⟨0, rfl⟩, hide (fun i hi => absurd hi (by omega))⟩
  case round =>
    clear h
    obtain ⟨k, hk, rfl, h, HQ, HG⟩ := hrel
    by_cases t : k < n
    · obtain ⟨e1, e2⟩ := h k (by omega)
      have HA := hide h
      clear h
      have GO := hide (show (el ps k).1 ≠ no → ∀ i, i < k + 1 → (el ps i).1 ≠ no from fun hn i hi => by
        by_cases e : i = k
        · subst e; exact hn
        · exact (unhide HG) i (by omega))
      have YES := hide (show ok = true → (el ps k).1 = no → IsKind 20 4 ps no (el ps k).2 from fun ho he => .inl ⟨OK.1 ho, k, by omega, he, rfl⟩)
      generalize (el ps k).1 = x at *
      generalize (el ps k).2 = y at *
      cases ok
      · go_wp2_with fail
        refine (sOk _ _ _ _ ps false hl h20 (unhide HA) OK).mono ?_
        rintro e w2 ⟨rfl, nq, rfl⟩
        go_wp2
        go_ret
        exact ⟨0, .inr ⟨.inl OK.no, rfl⟩, rfl, drewN_more (unhide HQ) _⟩
      · go_wp2_with fail
        refine (sOk _ _ _ _ ps true hl h20 (unhide HA) OK).mono ?_
        rintro e w2 ⟨rfl, nq, rfl⟩
        by_cases eq : x = no
        · have Y := hide ((unhide YES) (by trivial) eq)
          clear YES GO
          subst eq
          go_wp2
          go_ret
          exact ⟨y, unhide Y, rfl, drewN_more (unhide HQ) _⟩
        · have eqb : (x == no) = false := by simpa using eq
          have G := hide ((unhide GO) eq)
          clear YES GO
          go_wp2
          go_roundw
          case rel => exact ⟨k + 1, by omega, by go_num, unhide HA, hide (drewN_more (unhide HQ) _), G⟩
          case measure => simp [intOf]; omega
    · obtain rfl : k = n := by omega
      have K0 := hide (show IsKind 20 4 ps no 0 from .inr ⟨.inr (fun i hi => (unhide HG) i (by omega)), rfl⟩)
      clear h
      go_wp2
      go_ret
      exact ⟨0, unhide K0, rfl, unhide HQ⟩
end Go.Proofs.YtefcigaalgfmiaaGreatDoor.AccountSOk
namespace Go.Proofs.YtefcigaalgfmiaaGreatDoor.InstrSOk
open Go.ChangeShapes Go.WideShapes Go.ChangeAt Go.RowKit Pairs Chart
/-- b tells whether x is between two numbers. -/
def Tells (b : Bool) (x lo hi : Int) : Prop := b = true ↔ lo ≤ x ∧ x ≤ hi
theorem tells_of (x lo hi : Int) : ∃ b, Tells b x lo hi := bool_of _
/-- Between two numbers. -/
theorem sIn (x lo hi : Int) (b : Bool) (w : World) (hb : Tells b x lo hi) :
    Calls Tryz.prog 38 #[.int .i64 x, .int .i64 lo, .int .i64 hi] w fun e w' => e = .returned (.bool b) ∧ w' = w := by
  cases b
  · have H := hide (show lo ≤ x → ¬ x ≤ hi from fun h1 h2 => Bool.noConfusion ((unhide hb).2 ⟨h1, h2⟩))
    clear hb
    by_cases h1 : lo ≤ x
    · have h2 := (unhide H) h1
      clear H
      go_enter Tryz.func38, Tryz.ntmps38
      go_wp2
      go_ret
      exact ⟨rfl, rfl⟩
    · clear H
      go_enter Tryz.func38, Tryz.ntmps38
      go_wp2
      go_ret
      exact ⟨rfl, rfl⟩
  · obtain ⟨h1, h2⟩ := (unhide hb).1 rfl
    clear hb
    go_enter Tryz.func38, Tryz.ntmps38
    go_wp2
    go_ret
    exact ⟨rfl, rfl⟩
theorem sNo (x : Int) (b : Bool) (w : World) (hb : Tells b x 1 1000) :
    Calls Tryz.prog 52 #[.int .i64 x] w fun e w' => e = .returned (.bool b) ∧ w' = w := by
  go_enter Tryz.func52, Tryz.ntmps52
  go_wp2_with fail
  refine (sIn x 1 1000 b _ hb).mono ?_
  rintro e w' ⟨rfl, rfl⟩
  go_wp2
  go_ret
  exact ⟨rfl, rfl⟩
theorem drewN_more {w wr : World} (h : ∃ q, wr = w.drewN q) (m : Nat) : ∃ q, wr.drewN m = w.drewN q := by
  obtain ⟨q, rfl⟩ := h
  exact ⟨q + m, World.drewN_drewN ..⟩
set_option maxRecDepth 100000 in
set_option maxHeartbeats 2000000 in
theorem sOk (w : World) (g n cap : Nat) (ps : List (Int × Int)) (ok : Bool) (hl : ps.length = n) (h20 : n ≤ 1048576) (h : At w g ps) (hok : Says ok 8 2 ps) :
    Calls Tryz.prog 34 #[.slice (some ⟨g, 0, none⟩) n cap] w fun e w' => e = .returned (.bool ok) ∧ ∃ q, w' = w.drewN q := by
  by_cases nn : (8 : Int) < (n : Int)
  · obtain rfl : ok = false := hok.not (fun r => by have := r.1; omega)
    clear hok h
    go_enter Tryz.func34, Tryz.ntmps34
    go_wp2
    go_ret
    exact ⟨rfl, 0, rfl⟩
  go_enter Tryz.func34, Tryz.ntmps34
  go_wp2
  go_loopw [3] (fun i wr => ∃ (k : Nat), k ≤ n ∧ i = .int .i64 k ∧ At wr g ps ∧ Hid (∃ q, wr = w.drewN q) ∧ Hid (∀ i, i < k → RowOk 2 ps i)) (fun i _ => n - (intOf i).toNat)
  case atStart => exact ⟨0, by omega, rfl, h, hide ⟨0, rfl⟩, hide (fun i hi => absurd hi (by omega))⟩
  case round =>
    clear h
    obtain ⟨k, hk, rfl, h, HQ, HG⟩ := hrel
    by_cases t : k < n
    · obtain ⟨e1, e2⟩ := h k (by omega)
      have e3 : 0 < k → wr.cell? ⟨g, (k - 1) * 2, none⟩ = some (.int .i64 (el ps (k - 1)).1) := fun k0 => (h (k - 1) (by omega)).1
      obtain ⟨b1, B1⟩ := tells_of (el ps k).1 1 1000
      obtain ⟨b2, B2⟩ := tells_of (el ps k).2 1 2
      have ROW := hide (show RowOk 2 ps k ↔ (b1 = true) ∧ (b2 = true) ∧ (0 < k → (el ps (k - 1)).1 < (el ps k).1) from by unfold Tells at B1 B2; rw [B1, B2]; exact Iff.rfl)
      have HA := hide h
      clear h
      have BAD := hide (show ¬ RowOk 2 ps k → ok = false from fun hr => hok.not (fun r => hr (r.2 k (by omega))))
      have GOOD := hide (show RowOk 2 ps k → ∀ i, i < k + 1 → RowOk 2 ps i from fun hr i hi => by
        by_cases e : i = k
        · subst e; exact hr
        · exact (unhide HG) i (by omega))
      generalize (el ps k).1 = x at *
      generalize (el ps k).2 = y at *
      cases b1
      · have OKF := hide ((unhide BAD) (fun hr => by have := ((unhide ROW).1 hr).1; cases this))
        clear BAD GOOD ROW e3
        go_wp2_with fail
        go_quiet (first | (go_at_call 52; refine Calls.quiet_of_same (sNo _ false _ B1)))
        go_wp2
        go_ret
        exact ⟨by rw [unhide OKF]; rfl, drewN_more (unhide HQ) _⟩
      · cases b2
        · have OKF := hide ((unhide BAD) (fun hr => by have := ((unhide ROW).1 hr).2.1; cases this))
          clear BAD GOOD ROW e3
          go_wp2_with fail
          go_quiet (first | (go_at_call 52; refine Calls.quiet_of_same (sNo _ true _ B1)) | (go_at_call 38; refine Calls.quiet_of_same (sIn _ _ _ false _ B2)))
          go_wp2
          go_ret
          exact ⟨by rw [unhide OKF]; rfl, drewN_more (unhide HQ) _⟩
        · by_cases k0 : 0 < k
          · have e3 := e3 k0
            have k1 : (0 : Int) < (k : Int) := by omega
            have k2 : (0 : Int) ≤ (k : Int) - 1 := by omega
            have k3 : ((k : Int) - 1).toNat = k - 1 := by omega
            by_cases lt : (el ps (k - 1)).1 < x
            · have GO := hide ((unhide GOOD) ((unhide ROW).2 ⟨rfl, rfl, fun _ => lt⟩))
              clear BAD GOOD ROW
              have ge : ¬ x ≤ (el ps (k - 1)).1 := by omega
              generalize (el ps (k - 1)).1 = z at *
              go_wp2_with fail
              go_quiet (first | (go_at_call 52; refine Calls.quiet_of_same (sNo _ true _ B1)) | (go_at_call 38; refine Calls.quiet_of_same (sIn _ _ _ true _ B2)))
              go_wp2
              go_roundw
              case rel => exact ⟨k + 1, by omega, by go_num, unhide HA, hide (drewN_more (unhide HQ) _), GO⟩
              case measure => simp [intOf]; omega
            · have OKF := hide ((unhide BAD) (fun hr => lt (((unhide ROW).1 hr).2.2 k0)))
              clear BAD GOOD ROW
              have ge : x ≤ (el ps (k - 1)).1 := by omega
              generalize (el ps (k - 1)).1 = z at *
              go_wp2_with fail
              go_quiet (first | (go_at_call 52; refine Calls.quiet_of_same (sNo _ true _ B1)) | (go_at_call 38; refine Calls.quiet_of_same (sIn _ _ _ true _ B2)))
              go_wp2
              go_ret
              exact ⟨by rw [unhide OKF]; rfl, drewN_more (unhide HQ) _⟩
          · obtain rfl : k = 0 := by omega
            have GO := hide ((unhide GOOD) ((unhide ROW).2 ⟨rfl, rfl, fun h0 => absurd h0 k0⟩))
            clear BAD GOOD ROW e3
            go_wp2_with fail
            go_quiet (first | (go_at_call 52; refine Calls.quiet_of_same (sNo _ true _ B1)) | (go_at_call 38; refine Calls.quiet_of_same (sIn _ _ _ true _ B2)))
            go_wp2
            go_roundw
            case rel => exact ⟨1, by omega, by go_num, unhide HA, hide (drewN_more (unhide HQ) _), GO⟩
            case measure => simp [intOf]; omega
    · obtain rfl : k = n := by omega
      obtain rfl : ok = true := hok.of ⟨by omega, by rw [hl]; exact unhide HG⟩
      clear h hok
      go_wp2
      go_ret
      exact ⟨rfl, unhide HQ⟩
set_option maxRecDepth 100000 in
set_option maxHeartbeats 2000000 in
theorem sKind (w : World) (g n cap : Nat) (ps : List (Int × Int)) (no : Int) (hl : ps.length = n) (h20 : n ≤ 1048576) (h : At w g ps) :
    Calls Tryz.prog 42 #[.slice (some ⟨g, 0, none⟩) n cap, .int .i64 no] w fun e w' => ∃ r, IsKind 8 2 ps no r ∧ e = .returned (.int .i64 r) ∧ ∃ q, w' = w.drewN q := by
  obtain ⟨ok, OK⟩ := says_of 8 2 ps
  go_enter Tryz.func42, Tryz.ntmps42
  go_wp2
  go_loopw [5] (fun i wr => ∃ (k : Nat), k ≤ n ∧ i = .int .i64 k ∧ At wr g ps ∧ Hid (∃ q, wr = w.drewN q) ∧ Hid (∀ i, i < k → (el ps i).1 ≠ no)) (fun i _ => n - (intOf i).toNat)
  case atStart => exact ⟨0, by omega, rfl, h, hide ⟨0, rfl⟩, hide (fun i hi => absurd hi (by omega))⟩
  case round =>
    clear h
    obtain ⟨k, hk, rfl, h, HQ, HG⟩ := hrel
    by_cases t : k < n
    · obtain ⟨e1, e2⟩ := h k (by omega)
      have HA := hide h
      clear h
      have GO := hide (show (el ps k).1 ≠ no → ∀ i, i < k + 1 → (el ps i).1 ≠ no from fun hn i hi => by
        by_cases e : i = k
        · subst e; exact hn
        · exact (unhide HG) i (by omega))
      have YES := hide (show ok = true → (el ps k).1 = no → IsKind 8 2 ps no (el ps k).2 from fun ho he => .inl ⟨OK.1 ho, k, by omega, he, rfl⟩)
      generalize (el ps k).1 = x at *
      generalize (el ps k).2 = y at *
      cases ok
      · go_wp2_with fail
        refine (sOk _ _ _ _ ps false hl h20 (unhide HA) OK).mono ?_
        rintro e w2 ⟨rfl, nq, rfl⟩
        go_wp2
        go_ret
        exact ⟨0, .inr ⟨.inl OK.no, rfl⟩, rfl, drewN_more (unhide HQ) _⟩
      · go_wp2_with fail
        refine (sOk _ _ _ _ ps true hl h20 (unhide HA) OK).mono ?_
        rintro e w2 ⟨rfl, nq, rfl⟩
        by_cases eq : x = no
        · have Y := hide ((unhide YES) (by trivial) eq)
          clear YES GO
          subst eq
          go_wp2
          go_ret
          exact ⟨y, unhide Y, rfl, drewN_more (unhide HQ) _⟩
        · have eqb : (x == no) = false := by simpa using eq
          have G := hide ((unhide GO) eq)
          clear YES GO
          go_wp2
          go_roundw
          case rel => exact ⟨k + 1, by omega, by go_num, unhide HA, hide (drewN_more (unhide HQ) _), G⟩
          case measure => simp [intOf]; omega
    · obtain rfl : k = n := by omega
      have K0 := hide (show IsKind 8 2 ps no 0 from .inr ⟨.inr (fun i hi => (unhide HG) i (by omega)), rfl⟩)
      clear h
      go_wp2
      go_ret
      exact ⟨0, unhide K0, rfl, unhide HQ⟩
end Go.Proofs.YtefcigaalgfmiaaGreatDoor.InstrSOk
namespace Go.Proofs.YtefcigaalgfmiaaGreatDoor.AccountHelp
open Go.ChangeShapes Go.WideShapes Go.ChangeAt Go.RowKit Pairs
set_option maxRecDepth 100000 in
theorem eq1 (w : World) (x y : Int) : Calls Tryz.prog 47 #[.agg #[.int .i64 x, .int .i64 y], .agg #[.int .i64 x, .int .i64 y]] w fun e w' => e = .returned (.bool true) ∧ w' = (w.alloc (.cells #[.int .i64 x, .int .i64 y] 43)).alloc (.cells #[.int .i64 x, .int .i64 y] 43) := by
  go_enter Tryz.func47, Tryz.ntmps47
  go_wp2
  go_ret
  exact ⟨rfl, rfl⟩
theorem two_more (w : World) (o p : Obj) : Below w.heap.size w ((w.alloc o).alloc p).drew := (((Below.refl _ _).alloc (Nat.le_refl _) _).alloc (by simp) _).drew
set_option maxRecDepth 100000 in
theorem eqS (w : World) (g1 g2 n c1 c2 : Nat) (ps : List (Int × Int)) (hl : ps.length = n) (h20 : n ≤ 1048576) (l1 : g1 < w.heap.size) (l2 : g2 < w.heap.size) (h1 : At w g1 ps) (h2 : At w g2 ps) :
    Calls Tryz.prog 17 #[.slice (some ⟨g1, 0, none⟩) n c1, .slice (some ⟨g2, 0, none⟩) n c2] w fun e w' => e = .returned (.bool true) ∧ Below w.heap.size w w' := by
  go_enter Tryz.func17, Tryz.ntmps17
  go_wp2
  go_loopw [5] (fun i wr => ∃ (k : Nat), k ≤ n ∧ i = .int .i64 k ∧ At wr g1 ps ∧ At wr g2 ps ∧ Below w.heap.size w wr) (fun i _ => n - (intOf i).toNat)
  case atStart => exact ⟨0, by omega, rfl, h1, h2, Below.refl _ _⟩
  case round =>
    clear h1 h2
    obtain ⟨k, hk, rfl, h1, h2, hb⟩ := hrel
    by_cases t : k < n
    · obtain ⟨e1, f1⟩ := h1 k (by omega)
      obtain ⟨e2, f2⟩ := h2 k (by omega)
      have s := hb.size
      have H1 := hide h1
      have H2 := hide h2
      have HB := hide hb
      clear h1 h2 hb
      generalize (ps.getD k (0, 0)).1 = x at *
      generalize (ps.getD k (0, 0)).2 = y at *
      go_wp2_with fail
      go_region_held3 (fun w' => w'.cell? ⟨g1, k * 2, none⟩ = some (.int .i64 x) ∧ w'.cell? ⟨g2, k * 2, none⟩ = some (.int .i64 x) ∧ w'.cell? ⟨g1, k * 2 + 1, none⟩ = some (.int .i64 y) ∧ w'.cell? ⟨g2, k * 2 + 1, none⟩ = some (.int .i64 y)) (go_keep)
        (first | (go_at_call 47; refine (eq1 _ _ _).mono ?_; rintro e w2 ⟨rfl, rfl⟩))
      all_goals (go_wp2; go_roundw)
      all_goals first
        | (have b2 := two_more wr (.cells #[.int .i64 x, .int .i64 y] 43) (.cells #[.int .i64 x, .int .i64 y] 43)
           exact ⟨k + 1, by omega, by go_num, (unhide H1).below b2 (by omega), (unhide H2).below b2 (by omega), next (unhide HB) b2⟩)
        | (simp [intOf]; omega)
    · have HB := hide hb
      clear h1 h2 hb
      go_wp2
      go_ret
      exact ⟨rfl, unhide HB⟩
end Go.Proofs.YtefcigaalgfmiaaGreatDoor.AccountHelp
namespace Go.Proofs.YtefcigaalgfmiaaGreatDoor.AccountMark
open Go.ChangeShapes Go.WideShapes Go.ChangeAt Go.RowKit Pairs
/-- The marks. -/
def marks (s : Int) (n : Nat) : List (Int × Int) := (List.range n).map fun (i : Nat) => (s + 2 * (i : Int), s + 2 * (i : Int) + 1)
theorem marks_len (s : Int) (n : Nat) : (marks s n).length = n := by simp [marks]
theorem marks_getD (s : Int) (n i : Nat) (h : i < n) : (marks s n).getD i (0, 0) = (s + 2 * (i : Int), s + 2 * (i : Int) + 1) := by simp [marks, List.getD, h]
/-- The marks so far, and what stood behind. -/
def marked (s : Int) (ps : List (Int × Int)) (n j : Nat) : List (Int × Int) := (marks s n).take j ++ ps.drop j
theorem marked_zero (s : Int) (ps : List (Int × Int)) (n : Nat) : marked s ps n 0 = ps := by simp [marked]
theorem marked_all (s : Int) (ps : List (Int × Int)) (n : Nat) (h : ps.length = n) : marked s ps n n = marks s n := by
  unfold marked
  rw [List.take_of_length_le (by rw [marks_len]; exact Nat.le_refl _), List.drop_of_length_le (by omega), List.append_nil]
theorem marked_step (s : Int) (ps : List (Int × Int)) (n j : Nat) (h : ps.length = n) (hj : j < n) : ((marked s ps n j).modify j fun p => (s + 2 * (j : Int), p.2)).modify j (fun p => (p.1, s + 2 * (j : Int) + 1)) = marked s ps n (j + 1) := by
  unfold marked
  have l := marks_len s n
  have g := marks_getD s n j hj
  have l1 : ((marks s n).take j).length = j := by simp; omega
  have l2 : ((marks s n).take (j + 1)).length = j + 1 := by simp; omega
  apply List.ext_getElem?
  intro i
  rw [List.getElem?_modify, List.getElem?_modify]
  by_cases e : j = i
  · subst e
    rw [List.getElem?_append_right (by omega), List.getElem?_append_left (by omega), List.getElem?_take, if_pos (by omega), l1]
    have hg : (marks s n)[j]? = some (s + 2 * (j : Int), s + 2 * (j : Int) + 1) := by
      rw [← g]; simp [List.getD, l, hj]
    rw [hg]
    simp [List.getElem?_drop, h, hj]
  · by_cases q : i < j
    · rw [List.getElem?_append_left (by omega), List.getElem?_append_left (by omega), List.getElem?_take, List.getElem?_take, if_pos q, if_pos (by omega)]
      simp [e]
    · rw [List.getElem?_append_right (by omega), List.getElem?_append_right (by omega), l1, l2]
      simp only [List.getElem?_drop]
      rw [show j + (i - j) = i by omega, show j + 1 + (i - (j + 1)) = i by omega]
      simp [e]
set_option maxRecDepth 100000 in
theorem markS (w : World) (base g n cap : Nat) (s : Int) (ps : List (Int × Int)) (h20 : n ≤ 1048576) (s0 : 0 ≤ s) (s1 : s ≤ 100000000) (ho : Own 43 w base g n cap ps) :
    Calls Tryz.prog 22 #[.slice (some ⟨g, 0, none⟩) n cap, .int .i64 s] w fun e w' => e = .returned (.int .i64 (s + 2 * (n : Int))) ∧ Own 43 w' base g n cap (marks s n) ∧ w.grownBy w' (some g) := by
  have hl := ho.len
  have ho' : Own 43 w base g n cap (marked s ps n 0) := by rw [marked_zero]; exact ho
  clear ho
  go_enter Tryz.func22, Tryz.ntmps22
  go_wp2
  go_loopw [1, 5] (fun m i wr => ∃ (k : Nat), k ≤ n ∧ i = .int .i64 k ∧ m = .int .i64 (s + 2 * (k : Int)) ∧ Own 43 wr base g n cap (marked s ps n k) ∧ w.grownBy wr (some g)) (fun _ i _ => n - (intOf i).toNat)
  case atStart => exact ⟨0, by omega, rfl, by go_num, ho', World.grownBy.refl _ _⟩
  case round =>
    clear ho'
    obtain ⟨k, hk, rfl, rfl, hown, hg⟩ := hrel
    by_cases t : k < n
    · obtain ⟨o1, q1⟩ := hown.set0 k (s + 2 * (k : Int))
      obtain ⟨o2, q2⟩ := o1.set1 k (s + 2 * (k : Int) + 1)
      obtain ⟨hd0, hd1⟩ := hown.at k (by rw [Own.len hown]; exact t)
      have hf0 := hown.free (k * 2)
      have hf1 := hown.free (k * 2 + 1)
      rw [marked_step s ps n k hl t] at o2
      have HO := hide o2
      have HG := hide (grown_trans (grown_trans hg q1) q2)
      clear hown hg o1 q1 o2 q2
      generalize ((marked s ps n k).getD k (0, 0)).1 = z0 at hd0
      generalize ((marked s ps n k).getD k (0, 0)).2 = z1 at hd1
      go_wp2
      go_roundw
      case rel => exact ⟨k + 1, by omega, by go_num, by go_num, unhide HO, unhide HG⟩
      case measure => simp [intOf]; omega
    · obtain rfl : k = n := by omega
      rw [marked_all s ps k hl] at hown
      have HO := hide hown
      have HG := hide hg
      clear hown hg
      go_wp2
      go_ret
      exact ⟨rfl, unhide HO, unhide HG⟩
set_option maxRecDepth 100000 in
theorem heldS (w : World) (g n cap : Nat) (s : Int) (h20 : n ≤ 1048576) (s0 : 0 ≤ s) (s1 : s ≤ 100000000) (h : At w g (marks s n)) :
    Calls Tryz.prog 27 #[.slice (some ⟨g, 0, none⟩) n cap, .int .i64 s] w fun e w' => e = .returned (.int .i64 (s + 2 * (n : Int))) ∧ w' = w := by
  go_enter Tryz.func27, Tryz.ntmps27
  go_wp2
  go_loop [1, 5] (fun m i => ∃ (k : Nat), k ≤ n ∧ i = .int .i64 k ∧ m = .int .i64 (s + 2 * (k : Int))) (fun _ i => n - (intOf i).toNat)
  case atStart => exact ⟨0, by omega, rfl, by go_num⟩
  case round =>
    obtain ⟨k, hk, rfl, rfl⟩ := hrel
    by_cases t : k < n
    · obtain ⟨e0, e1⟩ := h k (by rw [marks_len]; exact t)
      rw [marks_getD s n k t] at e0 e1
      clear h
      go_wp2
      go_round
      case rel => exact ⟨k + 1, by omega, by go_num, by go_num⟩
      case measure => simp [intOf]; omega
    · obtain rfl : k = n := by omega
      clear h
      go_wp2
      go_ret
      exact ⟨rfl, rfl⟩
end Go.Proofs.YtefcigaalgfmiaaGreatDoor.AccountMark
namespace Go.Proofs.YtefcigaalgfmiaaGreatDoor.InstrHelp
open Go.ChangeShapes Go.WideShapes Go.ChangeAt Go.RowKit Pairs
set_option maxRecDepth 100000 in
theorem eq1 (w : World) (x y : Int) : Calls Tryz.prog 48 #[.agg #[.int .i64 x, .int .i64 y], .agg #[.int .i64 x, .int .i64 y]] w fun e w' => e = .returned (.bool true) ∧ w' = (w.alloc (.cells #[.int .i64 x, .int .i64 y] 44)).alloc (.cells #[.int .i64 x, .int .i64 y] 44) := by
  go_enter Tryz.func48, Tryz.ntmps48
  go_wp2
  go_ret
  exact ⟨rfl, rfl⟩
theorem two_more (w : World) (o p : Obj) : Below w.heap.size w ((w.alloc o).alloc p).drew := (((Below.refl _ _).alloc (Nat.le_refl _) _).alloc (by simp) _).drew
set_option maxRecDepth 100000 in
theorem eqS (w : World) (g1 g2 n c1 c2 : Nat) (ps : List (Int × Int)) (hl : ps.length = n) (h20 : n ≤ 1048576) (l1 : g1 < w.heap.size) (l2 : g2 < w.heap.size) (h1 : At w g1 ps) (h2 : At w g2 ps) :
    Calls Tryz.prog 18 #[.slice (some ⟨g1, 0, none⟩) n c1, .slice (some ⟨g2, 0, none⟩) n c2] w fun e w' => e = .returned (.bool true) ∧ Below w.heap.size w w' := by
  go_enter Tryz.func18, Tryz.ntmps18
  go_wp2
  go_loopw [5] (fun i wr => ∃ (k : Nat), k ≤ n ∧ i = .int .i64 k ∧ At wr g1 ps ∧ At wr g2 ps ∧ Below w.heap.size w wr) (fun i _ => n - (intOf i).toNat)
  case atStart => exact ⟨0, by omega, rfl, h1, h2, Below.refl _ _⟩
  case round =>
    clear h1 h2
    obtain ⟨k, hk, rfl, h1, h2, hb⟩ := hrel
    by_cases t : k < n
    · obtain ⟨e1, f1⟩ := h1 k (by omega)
      obtain ⟨e2, f2⟩ := h2 k (by omega)
      have s := hb.size
      have H1 := hide h1
      have H2 := hide h2
      have HB := hide hb
      clear h1 h2 hb
      generalize (ps.getD k (0, 0)).1 = x at *
      generalize (ps.getD k (0, 0)).2 = y at *
      go_wp2_with fail
      go_region_held3 (fun w' => w'.cell? ⟨g1, k * 2, none⟩ = some (.int .i64 x) ∧ w'.cell? ⟨g2, k * 2, none⟩ = some (.int .i64 x) ∧ w'.cell? ⟨g1, k * 2 + 1, none⟩ = some (.int .i64 y) ∧ w'.cell? ⟨g2, k * 2 + 1, none⟩ = some (.int .i64 y)) (go_keep)
        (first | (go_at_call 48; refine (eq1 _ _ _).mono ?_; rintro e w2 ⟨rfl, rfl⟩))
      all_goals (go_wp2; go_roundw)
      all_goals first
        | (have b2 := two_more wr (.cells #[.int .i64 x, .int .i64 y] 44) (.cells #[.int .i64 x, .int .i64 y] 44)
           exact ⟨k + 1, by omega, by go_num, (unhide H1).below b2 (by omega), (unhide H2).below b2 (by omega), next (unhide HB) b2⟩)
        | (simp [intOf]; omega)
    · have HB := hide hb
      clear h1 h2 hb
      go_wp2
      go_ret
      exact ⟨rfl, unhide HB⟩
end Go.Proofs.YtefcigaalgfmiaaGreatDoor.InstrHelp
namespace Go.Proofs.YtefcigaalgfmiaaGreatDoor.InstrMark
open Go.ChangeShapes Go.WideShapes Go.ChangeAt Go.RowKit Pairs
/-- The marks. -/
def marks (s : Int) (n : Nat) : List (Int × Int) := (List.range n).map fun (i : Nat) => (s + 2 * (i : Int), s + 2 * (i : Int) + 1)
theorem marks_len (s : Int) (n : Nat) : (marks s n).length = n := by simp [marks]
theorem marks_getD (s : Int) (n i : Nat) (h : i < n) : (marks s n).getD i (0, 0) = (s + 2 * (i : Int), s + 2 * (i : Int) + 1) := by simp [marks, List.getD, h]
/-- The marks so far, and what stood behind. -/
def marked (s : Int) (ps : List (Int × Int)) (n j : Nat) : List (Int × Int) := (marks s n).take j ++ ps.drop j
theorem marked_zero (s : Int) (ps : List (Int × Int)) (n : Nat) : marked s ps n 0 = ps := by simp [marked]
theorem marked_all (s : Int) (ps : List (Int × Int)) (n : Nat) (h : ps.length = n) : marked s ps n n = marks s n := by
  unfold marked
  rw [List.take_of_length_le (by rw [marks_len]; exact Nat.le_refl _), List.drop_of_length_le (by omega), List.append_nil]
theorem marked_step (s : Int) (ps : List (Int × Int)) (n j : Nat) (h : ps.length = n) (hj : j < n) : ((marked s ps n j).modify j fun p => (s + 2 * (j : Int), p.2)).modify j (fun p => (p.1, s + 2 * (j : Int) + 1)) = marked s ps n (j + 1) := by
  unfold marked
  have l := marks_len s n
  have g := marks_getD s n j hj
  have l1 : ((marks s n).take j).length = j := by simp; omega
  have l2 : ((marks s n).take (j + 1)).length = j + 1 := by simp; omega
  apply List.ext_getElem?
  intro i
  rw [List.getElem?_modify, List.getElem?_modify]
  by_cases e : j = i
  · subst e
    rw [List.getElem?_append_right (by omega), List.getElem?_append_left (by omega), List.getElem?_take, if_pos (by omega), l1]
    have hg : (marks s n)[j]? = some (s + 2 * (j : Int), s + 2 * (j : Int) + 1) := by
      rw [← g]; simp [List.getD, l, hj]
    rw [hg]
    simp [List.getElem?_drop, h, hj]
  · by_cases q : i < j
    · rw [List.getElem?_append_left (by omega), List.getElem?_append_left (by omega), List.getElem?_take, List.getElem?_take, if_pos q, if_pos (by omega)]
      simp [e]
    · rw [List.getElem?_append_right (by omega), List.getElem?_append_right (by omega), l1, l2]
      simp only [List.getElem?_drop]
      rw [show j + (i - j) = i by omega, show j + 1 + (i - (j + 1)) = i by omega]
      simp [e]
set_option maxRecDepth 100000 in
theorem markS (w : World) (base g n cap : Nat) (s : Int) (ps : List (Int × Int)) (h20 : n ≤ 1048576) (s0 : 0 ≤ s) (s1 : s ≤ 100000000) (ho : Own 44 w base g n cap ps) :
    Calls Tryz.prog 23 #[.slice (some ⟨g, 0, none⟩) n cap, .int .i64 s] w fun e w' => e = .returned (.int .i64 (s + 2 * (n : Int))) ∧ Own 44 w' base g n cap (marks s n) ∧ w.grownBy w' (some g) := by
  have hl := ho.len
  have ho' : Own 44 w base g n cap (marked s ps n 0) := by rw [marked_zero]; exact ho
  clear ho
  go_enter Tryz.func23, Tryz.ntmps23
  go_wp2
  go_loopw [1, 5] (fun m i wr => ∃ (k : Nat), k ≤ n ∧ i = .int .i64 k ∧ m = .int .i64 (s + 2 * (k : Int)) ∧ Own 44 wr base g n cap (marked s ps n k) ∧ w.grownBy wr (some g)) (fun _ i _ => n - (intOf i).toNat)
  case atStart => exact ⟨0, by omega, rfl, by go_num, ho', World.grownBy.refl _ _⟩
  case round =>
    clear ho'
    obtain ⟨k, hk, rfl, rfl, hown, hg⟩ := hrel
    by_cases t : k < n
    · obtain ⟨o1, q1⟩ := hown.set0 k (s + 2 * (k : Int))
      obtain ⟨o2, q2⟩ := o1.set1 k (s + 2 * (k : Int) + 1)
      obtain ⟨hd0, hd1⟩ := hown.at k (by rw [Own.len hown]; exact t)
      have hf0 := hown.free (k * 2)
      have hf1 := hown.free (k * 2 + 1)
      rw [marked_step s ps n k hl t] at o2
      have HO := hide o2
      have HG := hide (grown_trans (grown_trans hg q1) q2)
      clear hown hg o1 q1 o2 q2
      generalize ((marked s ps n k).getD k (0, 0)).1 = z0 at hd0
      generalize ((marked s ps n k).getD k (0, 0)).2 = z1 at hd1
      go_wp2
      go_roundw
      case rel => exact ⟨k + 1, by omega, by go_num, by go_num, unhide HO, unhide HG⟩
      case measure => simp [intOf]; omega
    · obtain rfl : k = n := by omega
      rw [marked_all s ps k hl] at hown
      have HO := hide hown
      have HG := hide hg
      clear hown hg
      go_wp2
      go_ret
      exact ⟨rfl, unhide HO, unhide HG⟩
set_option maxRecDepth 100000 in
theorem heldS (w : World) (g n cap : Nat) (s : Int) (h20 : n ≤ 1048576) (s0 : 0 ≤ s) (s1 : s ≤ 100000000) (h : At w g (marks s n)) :
    Calls Tryz.prog 28 #[.slice (some ⟨g, 0, none⟩) n cap, .int .i64 s] w fun e w' => e = .returned (.int .i64 (s + 2 * (n : Int))) ∧ w' = w := by
  go_enter Tryz.func28, Tryz.ntmps28
  go_wp2
  go_loop [1, 5] (fun m i => ∃ (k : Nat), k ≤ n ∧ i = .int .i64 k ∧ m = .int .i64 (s + 2 * (k : Int))) (fun _ i => n - (intOf i).toNat)
  case atStart => exact ⟨0, by omega, rfl, by go_num⟩
  case round =>
    obtain ⟨k, hk, rfl, rfl⟩ := hrel
    by_cases t : k < n
    · obtain ⟨e0, e1⟩ := h k (by rw [marks_len]; exact t)
      rw [marks_getD s n k t] at e0 e1
      clear h
      go_wp2
      go_round
      case rel => exact ⟨k + 1, by omega, by go_num, by go_num⟩
      case measure => simp [intOf]; omega
    · obtain rfl : k = n := by omega
      clear h
      go_wp2
      go_ret
      exact ⟨rfl, rfl⟩
end Go.Proofs.YtefcigaalgfmiaaGreatDoor.InstrMark
namespace Go.Proofs.YtefcigaalgfmiaaGreatDoor.BalHelp
open Go.ChangeShapes Go.WideShapes Go.ChangeAt Go.RowKit Bals Triples
set_option maxRecDepth 100000 in
theorem eq1 (w : World) (x y z : Int) : Calls Tryz.prog 49 #[.agg #[.int .i64 x, .int .i64 y, .int .i64 z], .agg #[.int .i64 x, .int .i64 y, .int .i64 z]] w fun e w' => e = .returned (.bool true) ∧ w' = (w.alloc (.cells #[.int .i64 x, .int .i64 y, .int .i64 z] 46)).alloc (.cells #[.int .i64 x, .int .i64 y, .int .i64 z] 46) := by
  go_enter Tryz.func49, Tryz.ntmps49
  go_wp2
  go_ret
  exact ⟨rfl, rfl⟩
theorem two_more (w : World) (o p : Obj) : Below w.heap.size w ((w.alloc o).alloc p).drew := (((Below.refl _ _).alloc (Nat.le_refl _) _).alloc (by simp) _).drew
set_option maxRecDepth 100000 in
theorem eqS (w : World) (g1 g2 n c1 c2 : Nat) (ps : List T3) (hl : ps.length = n) (h20 : n ≤ 1048576) (l1 : g1 < w.heap.size) (l2 : g2 < w.heap.size) (h1 : At3 w g1 ps) (h2 : At3 w g2 ps) :
    Calls Tryz.prog 19 #[.slice (some ⟨g1, 0, none⟩) n c1, .slice (some ⟨g2, 0, none⟩) n c2] w fun e w' => e = .returned (.bool true) ∧ Below w.heap.size w w' := by
  go_enter Tryz.func19, Tryz.ntmps19
  go_wp2
  go_loopw [5] (fun i wr => ∃ (k : Nat), k ≤ n ∧ i = .int .i64 k ∧ At3 wr g1 ps ∧ At3 wr g2 ps ∧ Below w.heap.size w wr) (fun i _ => n - (intOf i).toNat)
  case atStart => exact ⟨0, by omega, rfl, h1, h2, Below.refl _ _⟩
  case round =>
    clear h1 h2
    obtain ⟨k, hk, rfl, h1, h2, hb⟩ := hrel
    by_cases t : k < n
    · obtain ⟨e1, f1, i1⟩ := h1 k (by omega)
      obtain ⟨e2, f2, i2⟩ := h2 k (by omega)
      have s := hb.size
      have H1 := hide h1
      have H2 := hide h2
      have HB := hide hb
      clear h1 h2 hb
      generalize (el3 ps k).1 = x at *
      generalize (el3 ps k).2.1 = y at *
      generalize (el3 ps k).2.2 = z at *
      go_wp2_with fail
      go_region_held3 (fun w' => w'.cell? ⟨g1, k * 3, none⟩ = some (.int .i64 x) ∧ w'.cell? ⟨g2, k * 3, none⟩ = some (.int .i64 x) ∧ w'.cell? ⟨g1, k * 3 + 1, none⟩ = some (.int .i64 y) ∧ w'.cell? ⟨g2, k * 3 + 1, none⟩ = some (.int .i64 y) ∧ w'.cell? ⟨g1, k * 3 + 2, none⟩ = some (.int .i64 z) ∧ w'.cell? ⟨g2, k * 3 + 2, none⟩ = some (.int .i64 z)) (go_keep)
        (first | (go_at_call 49; refine (eq1 _ _ _ _).mono ?_; rintro e w2 ⟨rfl, rfl⟩))
      all_goals (go_wp2; go_roundw)
      all_goals first
        | (have b2 := two_more wr (.cells #[.int .i64 x, .int .i64 y, .int .i64 z] 46) (.cells #[.int .i64 x, .int .i64 y, .int .i64 z] 46)
           exact ⟨k + 1, by omega, by go_num, (unhide H1).below b2 (by omega), (unhide H2).below b2 (by omega), next (unhide HB) b2⟩)
        | (simp [intOf]; omega)
    · have HB := hide hb
      clear h1 h2 hb
      go_wp2
      go_ret
      exact ⟨rfl, unhide HB⟩
/-- The marks: numbers from s on, three a triple. -/
def marks (s : Int) (n : Nat) : List T3 := (List.range n).map fun (i : Nat) => (s + 3 * (i : Int), s + 3 * (i : Int) + 1, s + 3 * (i : Int) + 2)
theorem marks_len (s : Int) (n : Nat) : (marks s n).length = n := by simp [marks]
theorem marks_getD (s : Int) (n i : Nat) (h : i < n) : el3 (marks s n) i = (s + 3 * (i : Int), s + 3 * (i : Int) + 1, s + 3 * (i : Int) + 2) := by simp [marks, List.getD, h]
/-- The marks so far, and what stood behind. -/
def marked (s : Int) (ps : List T3) (n j : Nat) : List T3 := (marks s n).take j ++ ps.drop j
theorem marked_zero (s : Int) (ps : List T3) (n : Nat) : marked s ps n 0 = ps := by simp [marked]
theorem marked_all (s : Int) (ps : List T3) (n : Nat) (h : ps.length = n) : marked s ps n n = marks s n := by
  unfold marked
  rw [List.take_of_length_le (by rw [marks_len]; exact Nat.le_refl _), List.drop_of_length_le (by omega), List.append_nil]
theorem marked_step (s : Int) (ps : List T3) (n j : Nat) (h : ps.length = n) (hj : j < n) : (((marked s ps n j).modify j fun p => (s + 3 * (j : Int), p.2)).modify j (fun p => (p.1, s + 3 * (j : Int) + 1, p.2.2))).modify j (fun p => (p.1, p.2.1, s + 3 * (j : Int) + 1 + 1)) = marked s ps n (j + 1) := by
  unfold marked
  have l := marks_len s n
  have g := marks_getD s n j hj
  have l1 : ((marks s n).take j).length = j := by simp; omega
  have l2 : ((marks s n).take (j + 1)).length = j + 1 := by simp; omega
  apply List.ext_getElem?
  intro i
  rw [List.getElem?_modify, List.getElem?_modify, List.getElem?_modify]
  by_cases e : j = i
  · subst e
    rw [List.getElem?_append_right (by omega), List.getElem?_append_left (by omega), List.getElem?_take, if_pos (by omega), l1]
    have hg : (marks s n)[j]? = some (s + 3 * (j : Int), s + 3 * (j : Int) + 1, s + 3 * (j : Int) + 2) := by
      rw [← g]; simp [List.getD, l, hj]
    rw [hg]
    simp [List.getElem?_drop, h, hj]
    omega
  · by_cases d : i < j
    · rw [List.getElem?_append_left (by omega), List.getElem?_append_left (by omega), List.getElem?_take, List.getElem?_take, if_pos d, if_pos (by omega)]
      simp [e]
    · rw [List.getElem?_append_right (by omega), List.getElem?_append_right (by omega), l1, l2]
      simp only [List.getElem?_drop]
      rw [show j + (i - j) = i by omega, show j + 1 + (i - (j + 1)) = i by omega]
      simp [e]
set_option maxRecDepth 100000 in
theorem markS (w : World) (base g n cap : Nat) (s : Int) (ps : List T3) (h20 : n ≤ 1048576) (s0 : 0 ≤ s) (s1 : s ≤ 100000000) (ho : Own3 46 w base g n cap ps) :
    Calls Tryz.prog 24 #[.slice (some ⟨g, 0, none⟩) n cap, .int .i64 s] w fun e w' => e = .returned (.int .i64 (s + 3 * (n : Int))) ∧ Own3 46 w' base g n cap (marks s n) ∧ w.grownBy w' (some g) := by
  have hl := ho.len
  have ho' : Own3 46 w base g n cap (marked s ps n 0) := by rw [marked_zero]; exact ho
  clear ho
  go_enter Tryz.func24, Tryz.ntmps24
  go_wp2
  go_loopw [1, 5] (fun m i wr => ∃ (k : Nat), k ≤ n ∧ i = .int .i64 k ∧ m = .int .i64 (s + 3 * (k : Int)) ∧ Own3 46 wr base g n cap (marked s ps n k) ∧ w.grownBy wr (some g)) (fun _ i _ => n - (intOf i).toNat)
  case atStart => exact ⟨0, by omega, rfl, by go_num, ho', World.grownBy.refl _ _⟩
  case round =>
    clear ho'
    obtain ⟨k, hk, rfl, rfl, hown, hg⟩ := hrel
    by_cases t : k < n
    · obtain ⟨o1, q1⟩ := hown.set0 k (s + 3 * (k : Int))
      obtain ⟨o2, q2⟩ := o1.set1 k (s + 3 * (k : Int) + 1)
      obtain ⟨o3, q3⟩ := o2.set2 k (s + 3 * (k : Int) + 1 + 1)
      obtain ⟨hd0, hd1, hd2⟩ := hown.at k (by rw [Own3.len hown]; exact t)
      have hf0 := hown.free (k * 3)
      have hf1 := hown.free (k * 3 + 1)
      have hf2 := hown.free (k * 3 + 2)
      rw [marked_step s ps n k hl t] at o3
      have HO := hide o3
      have HG := hide (grown_trans (grown_trans (grown_trans hg q1) q2) q3)
      clear hown hg o1 q1 o2 q2 o3 q3
      generalize (el3 (marked s ps n k) k).1 = z0 at hd0
      generalize (el3 (marked s ps n k) k).2.1 = z1 at hd1
      generalize (el3 (marked s ps n k) k).2.2 = z2 at hd2
      have r1 : IntKind.i64.wrap (s + 3 * (k : Int) + 1) = s + 3 * (k : Int) + 1 := by rw [IntKind.wrap_i64]; omega
      have r2 : IntKind.i64.wrap (s + 3 * (k : Int) + 1 + 1) = s + 3 * (k : Int) + 1 + 1 := by rw [IntKind.wrap_i64]; omega
      have r3 : IntKind.i64.wrap (s + 3 * (k : Int) + 1 + 1 + 1) = s + 3 * (k : Int) + 1 + 1 + 1 := by rw [IntKind.wrap_i64]; omega
      go_wp2
      go_roundw
      case rel => exact ⟨k + 1, by omega, by go_num, by go_num, unhide HO, unhide HG⟩
      case measure => simp [intOf]; omega
    · obtain rfl : k = n := by omega
      rw [marked_all s ps k hl] at hown
      have HO := hide hown
      have HG := hide hg
      clear hown hg
      go_wp2
      go_ret
      exact ⟨rfl, unhide HO, unhide HG⟩
end Go.Proofs.YtefcigaalgfmiaaGreatDoor.BalHelp
namespace Go.Proofs.YtefcigaalgfmiaaGreatDoor.BalHeld
open Go.ChangeShapes Go.WideShapes Go.ChangeAt Go.RowKit Triples
open BalHelp (marks marks_len marks_getD)
set_option maxRecDepth 100000 in
theorem heldS (w : World) (g n cap : Nat) (s : Int) (h20 : n ≤ 1048576) (s0 : 0 ≤ s) (s1 : s ≤ 100000000) (h : At3 w g (marks s n)) :
    Calls Tryz.prog 29 #[.slice (some ⟨g, 0, none⟩) n cap, .int .i64 s] w fun e w' => e = .returned (.int .i64 (s + 3 * (n : Int))) ∧ w' = w := by
  go_enter Tryz.func29, Tryz.ntmps29
  go_wp2
  go_loop [1, 5] (fun m i => ∃ (k : Nat), k ≤ n ∧ i = .int .i64 k ∧ m = .int .i64 (s + 3 * (k : Int))) (fun _ i => n - (intOf i).toNat)
  case atStart => exact ⟨0, by omega, rfl, by go_num⟩
  case round =>
    obtain ⟨k, hk, rfl, rfl⟩ := hrel
    by_cases t : k < n
    · obtain ⟨e0, e1, e2⟩ := h k (by rw [marks_len]; exact t)
      rw [marks_getD s n k t] at e0 e1 e2
      have e2 : w.cell? ⟨g, k * 3 + 2, none⟩ = some (.int .i64 (s + 3 * (k : Int) + 1 + 1)) := by rw [e2]; simp; omega
      clear h
      go_wp2
      go_round
      case rel => exact ⟨k + 1, by omega, by go_num, by go_num⟩
      case measure => simp [intOf]; omega
    · obtain rfl : k = n := by omega
      clear h
      go_wp2
      go_ret
      exact ⟨rfl, rfl⟩
end Go.Proofs.YtefcigaalgfmiaaGreatDoor.BalHeld
namespace Go.Proofs.YtefcigaalgfmiaaGreatDoor.LotHelp
open Go.ChangeShapes Go.WideShapes Go.ChangeAt Go.RowKit Tup5
set_option maxRecDepth 100000 in
theorem eq1 (w : World) (x0 x1 x2 x3 x4 : Int) : Calls Tryz.prog 50 #[.agg #[.int .i64 x0, .int .i64 x1, .int .i64 x2, .int .i64 x3, .int .i64 x4], .agg #[.int .i64 x0, .int .i64 x1, .int .i64 x2, .int .i64 x3, .int .i64 x4]] w fun e w' => e = .returned (.bool true) ∧ w' = (w.alloc (.cells #[.int .i64 x0, .int .i64 x1, .int .i64 x2, .int .i64 x3, .int .i64 x4] 48)).alloc (.cells #[.int .i64 x0, .int .i64 x1, .int .i64 x2, .int .i64 x3, .int .i64 x4] 48) := by
  go_enter Tryz.func50, Tryz.ntmps50
  go_wp2
  go_ret
  exact ⟨rfl, rfl⟩
theorem two_more (w : World) (o p : Obj) : Below w.heap.size w ((w.alloc o).alloc p).drew := (((Below.refl _ _).alloc (Nat.le_refl _) _).alloc (by simp) _).drew
set_option maxRecDepth 100000 in
set_option maxHeartbeats 1000000 in
theorem eqS (w : World) (g1 g2 n c1 c2 : Nat) (ps : List T5) (hl : ps.length = n) (h20 : n ≤ 1048576) (l1 : g1 < w.heap.size) (l2 : g2 < w.heap.size) (h1 : At5 w g1 ps) (h2 : At5 w g2 ps) :
    Calls Tryz.prog 20 #[.slice (some ⟨g1, 0, none⟩) n c1, .slice (some ⟨g2, 0, none⟩) n c2] w fun e w' => e = .returned (.bool true) ∧ Below w.heap.size w w' := by
  go_enter Tryz.func20, Tryz.ntmps20
  go_wp2
  go_loopw [5] (fun i wr => ∃ (k : Nat), k ≤ n ∧ i = .int .i64 k ∧ At5 wr g1 ps ∧ At5 wr g2 ps ∧ Below w.heap.size w wr) (fun i _ => n - (intOf i).toNat)
  case atStart => exact ⟨0, by omega, rfl, h1, h2, Below.refl _ _⟩
  case round =>
    clear h1 h2
    obtain ⟨k, hk, rfl, h1, h2, hb⟩ := hrel
    by_cases t : k < n
    · obtain ⟨e0, e1, e2, e3, e4⟩ := h1 k (by omega)
      obtain ⟨f0, f1, f2, f3, f4⟩ := h2 k (by omega)
      have s := hb.size
      have H1 := hide h1
      have H2 := hide h2
      have HB := hide hb
      clear h1 h2 hb
      generalize (el5 ps k).1 = x0 at *
      generalize (el5 ps k).2.1 = x1 at *
      generalize (el5 ps k).2.2.1 = x2 at *
      generalize (el5 ps k).2.2.2.1 = x3 at *
      generalize (el5 ps k).2.2.2.2 = x4 at *
      go_wp2_with fail
      go_region_held3 (fun w' => w'.cell? ⟨g1, k * 5, none⟩ = some (.int .i64 x0) ∧ w'.cell? ⟨g2, k * 5, none⟩ = some (.int .i64 x0) ∧ w'.cell? ⟨g1, k * 5 + 1, none⟩ = some (.int .i64 x1) ∧ w'.cell? ⟨g2, k * 5 + 1, none⟩ = some (.int .i64 x1) ∧ w'.cell? ⟨g1, k * 5 + 2, none⟩ = some (.int .i64 x2) ∧ w'.cell? ⟨g2, k * 5 + 2, none⟩ = some (.int .i64 x2) ∧ w'.cell? ⟨g1, k * 5 + 3, none⟩ = some (.int .i64 x3) ∧ w'.cell? ⟨g2, k * 5 + 3, none⟩ = some (.int .i64 x3) ∧ w'.cell? ⟨g1, k * 5 + 4, none⟩ = some (.int .i64 x4) ∧ w'.cell? ⟨g2, k * 5 + 4, none⟩ = some (.int .i64 x4)) (go_keep)
        (first | (go_at_call 50; refine (eq1 _ _ _ _ _ _).mono ?_; rintro e w2 ⟨rfl, rfl⟩))
      all_goals (go_wp2; go_roundw)
      all_goals first
        | (have b2 := two_more wr (.cells #[.int .i64 x0, .int .i64 x1, .int .i64 x2, .int .i64 x3, .int .i64 x4] 48) (.cells #[.int .i64 x0, .int .i64 x1, .int .i64 x2, .int .i64 x3, .int .i64 x4] 48)
           exact ⟨k + 1, by omega, by go_num, (unhide H1).below b2 (by omega), (unhide H2).below b2 (by omega), next (unhide HB) b2⟩)
        | (simp [intOf]; omega)
    · have HB := hide hb
      clear h1 h2 hb
      go_wp2
      go_ret
      exact ⟨rfl, unhide HB⟩
/-- The marks: numbers from s on, 5 an element. -/
def marks (s : Int) (n : Nat) : List T5 := (List.range n).map fun (i : Nat) => (s + 5 * (i : Int), s + 5 * (i : Int) + 1, s + 5 * (i : Int) + 2, s + 5 * (i : Int) + 3, s + 5 * (i : Int) + 4)
theorem marks_len (s : Int) (n : Nat) : (marks s n).length = n := by simp [marks]
theorem marks_getD (s : Int) (n i : Nat) (h : i < n) : el5 (marks s n) i = (s + 5 * (i : Int), s + 5 * (i : Int) + 1, s + 5 * (i : Int) + 2, s + 5 * (i : Int) + 3, s + 5 * (i : Int) + 4) := by simp [marks, List.getD, h]
/-- The marks so far, and what stood behind. -/
def marked (s : Int) (ps : List T5) (n j : Nat) : List T5 := (marks s n).take j ++ ps.drop j
theorem marked_zero (s : Int) (ps : List T5) (n : Nat) : marked s ps n 0 = ps := by simp [marked]
theorem marked_all (s : Int) (ps : List T5) (n : Nat) (h : ps.length = n) : marked s ps n n = marks s n := by
  unfold marked
  rw [List.take_of_length_le (by rw [marks_len]; exact Nat.le_refl _), List.drop_of_length_le (by omega), List.append_nil]
theorem marked_step (s : Int) (ps : List T5) (n j : Nat) (h : ps.length = n) (hj : j < n) : (((((marked s ps n j).modify j (fun p => (s + 5 * (j : Int), p.2.1, p.2.2.1, p.2.2.2.1, p.2.2.2.2))).modify j (fun p => (p.1, s + 5 * (j : Int) + 1, p.2.2.1, p.2.2.2.1, p.2.2.2.2))).modify j (fun p => (p.1, p.2.1, s + 5 * (j : Int) + 1 + 1, p.2.2.2.1, p.2.2.2.2))).modify j (fun p => (p.1, p.2.1, p.2.2.1, s + 5 * (j : Int) + 1 + 1 + 1, p.2.2.2.2))).modify j (fun p => (p.1, p.2.1, p.2.2.1, p.2.2.2.1, s + 5 * (j : Int) + 1 + 1 + 1 + 1)) = marked s ps n (j + 1) := by
  unfold marked
  have l := marks_len s n
  have g := marks_getD s n j hj
  have l1 : ((marks s n).take j).length = j := by simp; omega
  have l2 : ((marks s n).take (j + 1)).length = j + 1 := by simp; omega
  apply List.ext_getElem?
  intro i
  rw [List.getElem?_modify, List.getElem?_modify, List.getElem?_modify, List.getElem?_modify, List.getElem?_modify]
  by_cases e : j = i
  · subst e
    rw [List.getElem?_append_right (by omega), List.getElem?_append_left (by omega), List.getElem?_take, if_pos (by omega), l1]
    have hg : (marks s n)[j]? = some (s + 5 * (j : Int), s + 5 * (j : Int) + 1, s + 5 * (j : Int) + 2, s + 5 * (j : Int) + 3, s + 5 * (j : Int) + 4) := by
      rw [← g]; simp [List.getD, l, hj]
    rw [hg]
    simp [List.getElem?_drop, h, hj]
    omega
  · by_cases d : i < j
    · rw [List.getElem?_append_left (by omega), List.getElem?_append_left (by omega), List.getElem?_take, List.getElem?_take, if_pos d, if_pos (by omega)]
      simp [e]
    · rw [List.getElem?_append_right (by omega), List.getElem?_append_right (by omega), l1, l2]
      simp only [List.getElem?_drop]
      rw [show j + (i - j) = i by omega, show j + 1 + (i - (j + 1)) = i by omega]
      simp [e]
set_option maxRecDepth 100000 in
set_option maxHeartbeats 1000000 in
theorem markS (w : World) (base g n cap : Nat) (s : Int) (ps : List T5) (h20 : n ≤ 1048576) (s0 : 0 ≤ s) (s1 : s ≤ 100000000) (ho : Own5 48 w base g n cap ps) :
    Calls Tryz.prog 25 #[.slice (some ⟨g, 0, none⟩) n cap, .int .i64 s] w fun e w' => e = .returned (.int .i64 (s + 5 * (n : Int))) ∧ Own5 48 w' base g n cap (marks s n) ∧ w.grownBy w' (some g) := by
  have hl := ho.len
  have ho' : Own5 48 w base g n cap (marked s ps n 0) := by rw [marked_zero]; exact ho
  clear ho
  go_enter Tryz.func25, Tryz.ntmps25
  go_wp2
  go_loopw [1, 5] (fun m i wr => ∃ (k : Nat), k ≤ n ∧ i = .int .i64 k ∧ m = .int .i64 (s + 5 * (k : Int)) ∧ Own5 48 wr base g n cap (marked s ps n k) ∧ w.grownBy wr (some g)) (fun _ i _ => n - (intOf i).toNat)
  case atStart => exact ⟨0, by omega, rfl, by go_num, ho', World.grownBy.refl _ _⟩
  case round =>
    clear ho'
    obtain ⟨k, hk, rfl, rfl, hown, hg⟩ := hrel
    by_cases t : k < n
    · obtain ⟨o0, q0⟩ := hown.set0 k (s + 5 * (k : Int))
      obtain ⟨o1, q1⟩ := o0.set1 k (s + 5 * (k : Int) + 1)
      obtain ⟨o2, q2⟩ := o1.set2 k (s + 5 * (k : Int) + 1 + 1)
      obtain ⟨o3, q3⟩ := o2.set3 k (s + 5 * (k : Int) + 1 + 1 + 1)
      obtain ⟨o4, q4⟩ := o3.set4 k (s + 5 * (k : Int) + 1 + 1 + 1 + 1)
      obtain ⟨hd0, hd1, hd2, hd3, hd4⟩ := hown.at k (by rw [Own5.len hown]; exact t)
      have hf0 := hown.free (k * 5)
      have hf1 := hown.free (k * 5 + 1)
      have hf2 := hown.free (k * 5 + 2)
      have hf3 := hown.free (k * 5 + 3)
      have hf4 := hown.free (k * 5 + 4)
      rw [marked_step s ps n k hl t] at o4
      have HO := hide o4
      have HG := hide (grown_trans (grown_trans (grown_trans (grown_trans (grown_trans hg q0) q1) q2) q3) q4)
      clear hown hg o0 q0 o1 q1 o2 q2 o3 q3 o4 q4
      generalize (el5 (marked s ps n k) k).1 = z0 at hd0
      generalize (el5 (marked s ps n k) k).2.1 = z1 at hd1
      generalize (el5 (marked s ps n k) k).2.2.1 = z2 at hd2
      generalize (el5 (marked s ps n k) k).2.2.2.1 = z3 at hd3
      generalize (el5 (marked s ps n k) k).2.2.2.2 = z4 at hd4
      have r1 : IntKind.i64.wrap (s + 5 * (k : Int) + 1) = s + 5 * (k : Int) + 1 := by rw [IntKind.wrap_i64]; omega
      have r2 : IntKind.i64.wrap (s + 5 * (k : Int) + 1 + 1) = s + 5 * (k : Int) + 1 + 1 := by rw [IntKind.wrap_i64]; omega
      have r3 : IntKind.i64.wrap (s + 5 * (k : Int) + 1 + 1 + 1) = s + 5 * (k : Int) + 1 + 1 + 1 := by rw [IntKind.wrap_i64]; omega
      have r4 : IntKind.i64.wrap (s + 5 * (k : Int) + 1 + 1 + 1 + 1) = s + 5 * (k : Int) + 1 + 1 + 1 + 1 := by rw [IntKind.wrap_i64]; omega
      have r5 : IntKind.i64.wrap (s + 5 * (k : Int) + 1 + 1 + 1 + 1 + 1) = s + 5 * (k : Int) + 1 + 1 + 1 + 1 + 1 := by rw [IntKind.wrap_i64]; omega
      go_wp2
      go_roundw
      case rel => exact ⟨k + 1, by omega, by go_num, by go_num, unhide HO, unhide HG⟩
      case measure => simp [intOf]; omega
    · obtain rfl : k = n := by omega
      rw [marked_all s ps k hl] at hown
      have HO := hide hown
      have HG := hide hg
      clear hown hg
      go_wp2
      go_ret
      exact ⟨rfl, unhide HO, unhide HG⟩
end Go.Proofs.YtefcigaalgfmiaaGreatDoor.LotHelp
namespace Go.Proofs.YtefcigaalgfmiaaGreatDoor.LotHeld
open Go.ChangeShapes Go.WideShapes Go.ChangeAt Go.RowKit Tup5
open LotHelp (marks marks_len marks_getD)
set_option maxRecDepth 100000 in
theorem heldS (w : World) (g n cap : Nat) (s : Int) (h20 : n ≤ 1048576) (s0 : 0 ≤ s) (s1 : s ≤ 100000000) (h : At5 w g (marks s n)) :
    Calls Tryz.prog 30 #[.slice (some ⟨g, 0, none⟩) n cap, .int .i64 s] w fun e w' => e = .returned (.int .i64 (s + 5 * (n : Int))) ∧ w' = w := by
  go_enter Tryz.func30, Tryz.ntmps30
  go_wp2
  go_loop [1, 5] (fun m i => ∃ (k : Nat), k ≤ n ∧ i = .int .i64 k ∧ m = .int .i64 (s + 5 * (k : Int))) (fun _ i => n - (intOf i).toNat)
  case atStart => exact ⟨0, by omega, rfl, by go_num⟩
  case round =>
    obtain ⟨k, hk, rfl, rfl⟩ := hrel
    by_cases t : k < n
    · obtain ⟨e0, e1, e2, e3, e4⟩ := h k (by rw [marks_len]; exact t)
      rw [marks_getD s n k t] at e0 e1 e2 e3 e4
      have e2 : w.cell? ⟨g, k * 5 + 2, none⟩ = some (.int .i64 (s + 5 * (k : Int) + 1 + 1)) := by rw [e2]; simp; omega
      have e3 : w.cell? ⟨g, k * 5 + 3, none⟩ = some (.int .i64 (s + 5 * (k : Int) + 1 + 1 + 1)) := by rw [e3]; simp; omega
      have e4 : w.cell? ⟨g, k * 5 + 4, none⟩ = some (.int .i64 (s + 5 * (k : Int) + 1 + 1 + 1 + 1)) := by rw [e4]; simp; omega
      clear h
      go_wp2
      go_round
      case rel => exact ⟨k + 1, by omega, by go_num, by go_num⟩
      case measure => simp [intOf]; omega
    · obtain rfl : k = n := by omega
      clear h
      go_wp2
      go_ret
      exact ⟨rfl, rfl⟩
end Go.Proofs.YtefcigaalgfmiaaGreatDoor.LotHeld
namespace Go.Proofs.YtefcigaalgfmiaaGreatDoor.TradeHelp
open Go.ChangeShapes Go.WideShapes Go.ChangeAt Go.RowKit Tup8
set_option maxRecDepth 100000 in
theorem eq1 (w : World) (x0 x1 x2 x3 x4 x5 x6 x7 : Int) : Calls Tryz.prog 51 #[.agg #[.int .i64 x0, .int .i64 x1, .int .i64 x2, .int .i64 x3, .int .i64 x4, .int .i64 x5, .int .i64 x6, .int .i64 x7], .agg #[.int .i64 x0, .int .i64 x1, .int .i64 x2, .int .i64 x3, .int .i64 x4, .int .i64 x5, .int .i64 x6, .int .i64 x7]] w fun e w' => e = .returned (.bool true) ∧ w' = (w.alloc (.cells #[.int .i64 x0, .int .i64 x1, .int .i64 x2, .int .i64 x3, .int .i64 x4, .int .i64 x5, .int .i64 x6, .int .i64 x7] 50)).alloc (.cells #[.int .i64 x0, .int .i64 x1, .int .i64 x2, .int .i64 x3, .int .i64 x4, .int .i64 x5, .int .i64 x6, .int .i64 x7] 50) := by
  go_enter Tryz.func51, Tryz.ntmps51
  go_wp2
  go_ret
  exact ⟨rfl, rfl⟩
theorem two_more (w : World) (o p : Obj) : Below w.heap.size w ((w.alloc o).alloc p).drew := (((Below.refl _ _).alloc (Nat.le_refl _) _).alloc (by simp) _).drew
set_option maxRecDepth 100000 in
set_option maxHeartbeats 1000000 in
theorem eqS (w : World) (g1 g2 n c1 c2 : Nat) (ps : List T8) (hl : ps.length = n) (h20 : n ≤ 1048576) (l1 : g1 < w.heap.size) (l2 : g2 < w.heap.size) (h1 : At8 w g1 ps) (h2 : At8 w g2 ps) :
    Calls Tryz.prog 21 #[.slice (some ⟨g1, 0, none⟩) n c1, .slice (some ⟨g2, 0, none⟩) n c2] w fun e w' => e = .returned (.bool true) ∧ Below w.heap.size w w' := by
  go_enter Tryz.func21, Tryz.ntmps21
  go_wp2
  go_loopw [5] (fun i wr => ∃ (k : Nat), k ≤ n ∧ i = .int .i64 k ∧ At8 wr g1 ps ∧ At8 wr g2 ps ∧ Below w.heap.size w wr) (fun i _ => n - (intOf i).toNat)
  case atStart => exact ⟨0, by omega, rfl, h1, h2, Below.refl _ _⟩
  case round =>
    clear h1 h2
    obtain ⟨k, hk, rfl, h1, h2, hb⟩ := hrel
    by_cases t : k < n
    · obtain ⟨e0, e1, e2, e3, e4, e5, e6, e7⟩ := h1 k (by omega)
      obtain ⟨f0, f1, f2, f3, f4, f5, f6, f7⟩ := h2 k (by omega)
      have s := hb.size
      have H1 := hide h1
      have H2 := hide h2
      have HB := hide hb
      clear h1 h2 hb
      generalize (el8 ps k).1 = x0 at *
      generalize (el8 ps k).2.1 = x1 at *
      generalize (el8 ps k).2.2.1 = x2 at *
      generalize (el8 ps k).2.2.2.1 = x3 at *
      generalize (el8 ps k).2.2.2.2.1 = x4 at *
      generalize (el8 ps k).2.2.2.2.2.1 = x5 at *
      generalize (el8 ps k).2.2.2.2.2.2.1 = x6 at *
      generalize (el8 ps k).2.2.2.2.2.2.2 = x7 at *
      go_wp2_with fail
      go_region_held3 (fun w' => w'.cell? ⟨g1, k * 8, none⟩ = some (.int .i64 x0) ∧ w'.cell? ⟨g2, k * 8, none⟩ = some (.int .i64 x0) ∧ w'.cell? ⟨g1, k * 8 + 1, none⟩ = some (.int .i64 x1) ∧ w'.cell? ⟨g2, k * 8 + 1, none⟩ = some (.int .i64 x1) ∧ w'.cell? ⟨g1, k * 8 + 2, none⟩ = some (.int .i64 x2) ∧ w'.cell? ⟨g2, k * 8 + 2, none⟩ = some (.int .i64 x2) ∧ w'.cell? ⟨g1, k * 8 + 3, none⟩ = some (.int .i64 x3) ∧ w'.cell? ⟨g2, k * 8 + 3, none⟩ = some (.int .i64 x3) ∧ w'.cell? ⟨g1, k * 8 + 4, none⟩ = some (.int .i64 x4) ∧ w'.cell? ⟨g2, k * 8 + 4, none⟩ = some (.int .i64 x4) ∧ w'.cell? ⟨g1, k * 8 + 5, none⟩ = some (.int .i64 x5) ∧ w'.cell? ⟨g2, k * 8 + 5, none⟩ = some (.int .i64 x5) ∧ w'.cell? ⟨g1, k * 8 + 6, none⟩ = some (.int .i64 x6) ∧ w'.cell? ⟨g2, k * 8 + 6, none⟩ = some (.int .i64 x6) ∧ w'.cell? ⟨g1, k * 8 + 7, none⟩ = some (.int .i64 x7) ∧ w'.cell? ⟨g2, k * 8 + 7, none⟩ = some (.int .i64 x7)) (go_keep)
        (first | (go_at_call 51; refine (eq1 _ _ _ _ _ _ _ _ _).mono ?_; rintro e w2 ⟨rfl, rfl⟩))
      all_goals (go_wp2; go_roundw)
      all_goals first
        | (have b2 := two_more wr (.cells #[.int .i64 x0, .int .i64 x1, .int .i64 x2, .int .i64 x3, .int .i64 x4, .int .i64 x5, .int .i64 x6, .int .i64 x7] 50) (.cells #[.int .i64 x0, .int .i64 x1, .int .i64 x2, .int .i64 x3, .int .i64 x4, .int .i64 x5, .int .i64 x6, .int .i64 x7] 50)
           exact ⟨k + 1, by omega, by go_num, (unhide H1).below b2 (by omega), (unhide H2).below b2 (by omega), next (unhide HB) b2⟩)
        | (simp [intOf]; omega)
    · have HB := hide hb
      clear h1 h2 hb
      go_wp2
      go_ret
      exact ⟨rfl, unhide HB⟩
/-- The marks: numbers from s on, 8 an element. -/
def marks (s : Int) (n : Nat) : List T8 := (List.range n).map fun (i : Nat) => (s + 8 * (i : Int), s + 8 * (i : Int) + 1, s + 8 * (i : Int) + 2, s + 8 * (i : Int) + 3, s + 8 * (i : Int) + 4, s + 8 * (i : Int) + 5, s + 8 * (i : Int) + 6, s + 8 * (i : Int) + 7)
theorem marks_len (s : Int) (n : Nat) : (marks s n).length = n := by simp [marks]
theorem marks_getD (s : Int) (n i : Nat) (h : i < n) : el8 (marks s n) i = (s + 8 * (i : Int), s + 8 * (i : Int) + 1, s + 8 * (i : Int) + 2, s + 8 * (i : Int) + 3, s + 8 * (i : Int) + 4, s + 8 * (i : Int) + 5, s + 8 * (i : Int) + 6, s + 8 * (i : Int) + 7) := by simp [marks, List.getD, h]
/-- The marks so far, and what stood behind. -/
def marked (s : Int) (ps : List T8) (n j : Nat) : List T8 := (marks s n).take j ++ ps.drop j
theorem marked_zero (s : Int) (ps : List T8) (n : Nat) : marked s ps n 0 = ps := by simp [marked]
theorem marked_all (s : Int) (ps : List T8) (n : Nat) (h : ps.length = n) : marked s ps n n = marks s n := by
  unfold marked
  rw [List.take_of_length_le (by rw [marks_len]; exact Nat.le_refl _), List.drop_of_length_le (by omega), List.append_nil]
theorem marked_step (s : Int) (ps : List T8) (n j : Nat) (h : ps.length = n) (hj : j < n) : ((((((((marked s ps n j).modify j (fun p => (s + 8 * (j : Int), p.2.1, p.2.2.1, p.2.2.2.1, p.2.2.2.2.1, p.2.2.2.2.2.1, p.2.2.2.2.2.2.1, p.2.2.2.2.2.2.2))).modify j (fun p => (p.1, s + 8 * (j : Int) + 1, p.2.2.1, p.2.2.2.1, p.2.2.2.2.1, p.2.2.2.2.2.1, p.2.2.2.2.2.2.1, p.2.2.2.2.2.2.2))).modify j (fun p => (p.1, p.2.1, s + 8 * (j : Int) + 1 + 1, p.2.2.2.1, p.2.2.2.2.1, p.2.2.2.2.2.1, p.2.2.2.2.2.2.1, p.2.2.2.2.2.2.2))).modify j (fun p => (p.1, p.2.1, p.2.2.1, s + 8 * (j : Int) + 1 + 1 + 1, p.2.2.2.2.1, p.2.2.2.2.2.1, p.2.2.2.2.2.2.1, p.2.2.2.2.2.2.2))).modify j (fun p => (p.1, p.2.1, p.2.2.1, p.2.2.2.1, s + 8 * (j : Int) + 1 + 1 + 1 + 1, p.2.2.2.2.2.1, p.2.2.2.2.2.2.1, p.2.2.2.2.2.2.2))).modify j (fun p => (p.1, p.2.1, p.2.2.1, p.2.2.2.1, p.2.2.2.2.1, s + 8 * (j : Int) + 1 + 1 + 1 + 1 + 1, p.2.2.2.2.2.2.1, p.2.2.2.2.2.2.2))).modify j (fun p => (p.1, p.2.1, p.2.2.1, p.2.2.2.1, p.2.2.2.2.1, p.2.2.2.2.2.1, s + 8 * (j : Int) + 1 + 1 + 1 + 1 + 1 + 1, p.2.2.2.2.2.2.2))).modify j (fun p => (p.1, p.2.1, p.2.2.1, p.2.2.2.1, p.2.2.2.2.1, p.2.2.2.2.2.1, p.2.2.2.2.2.2.1, s + 8 * (j : Int) + 1 + 1 + 1 + 1 + 1 + 1 + 1)) = marked s ps n (j + 1) := by
  unfold marked
  have l := marks_len s n
  have g := marks_getD s n j hj
  have l1 : ((marks s n).take j).length = j := by simp; omega
  have l2 : ((marks s n).take (j + 1)).length = j + 1 := by simp; omega
  apply List.ext_getElem?
  intro i
  rw [List.getElem?_modify, List.getElem?_modify, List.getElem?_modify, List.getElem?_modify, List.getElem?_modify, List.getElem?_modify, List.getElem?_modify, List.getElem?_modify]
  by_cases e : j = i
  · subst e
    rw [List.getElem?_append_right (by omega), List.getElem?_append_left (by omega), List.getElem?_take, if_pos (by omega), l1]
    have hg : (marks s n)[j]? = some (s + 8 * (j : Int), s + 8 * (j : Int) + 1, s + 8 * (j : Int) + 2, s + 8 * (j : Int) + 3, s + 8 * (j : Int) + 4, s + 8 * (j : Int) + 5, s + 8 * (j : Int) + 6, s + 8 * (j : Int) + 7) := by
      rw [← g]; simp [List.getD, l, hj]
    rw [hg]
    simp [List.getElem?_drop, h, hj]
    omega
  · by_cases d : i < j
    · rw [List.getElem?_append_left (by omega), List.getElem?_append_left (by omega), List.getElem?_take, List.getElem?_take, if_pos d, if_pos (by omega)]
      simp [e]
    · rw [List.getElem?_append_right (by omega), List.getElem?_append_right (by omega), l1, l2]
      simp only [List.getElem?_drop]
      rw [show j + (i - j) = i by omega, show j + 1 + (i - (j + 1)) = i by omega]
      simp [e]
set_option maxRecDepth 100000 in
set_option maxHeartbeats 1000000 in
theorem markS (w : World) (base g n cap : Nat) (s : Int) (ps : List T8) (h20 : n ≤ 1048576) (s0 : 0 ≤ s) (s1 : s ≤ 100000000) (ho : Own8 50 w base g n cap ps) :
    Calls Tryz.prog 26 #[.slice (some ⟨g, 0, none⟩) n cap, .int .i64 s] w fun e w' => e = .returned (.int .i64 (s + 8 * (n : Int))) ∧ Own8 50 w' base g n cap (marks s n) ∧ w.grownBy w' (some g) := by
  have hl := ho.len
  have ho' : Own8 50 w base g n cap (marked s ps n 0) := by rw [marked_zero]; exact ho
  clear ho
  go_enter Tryz.func26, Tryz.ntmps26
  go_wp2
  go_loopw [1, 5] (fun m i wr => ∃ (k : Nat), k ≤ n ∧ i = .int .i64 k ∧ m = .int .i64 (s + 8 * (k : Int)) ∧ Own8 50 wr base g n cap (marked s ps n k) ∧ w.grownBy wr (some g)) (fun _ i _ => n - (intOf i).toNat)
  case atStart => exact ⟨0, by omega, rfl, by go_num, ho', World.grownBy.refl _ _⟩
  case round =>
    clear ho'
    obtain ⟨k, hk, rfl, rfl, hown, hg⟩ := hrel
    by_cases t : k < n
    · obtain ⟨o0, q0⟩ := hown.set0 k (s + 8 * (k : Int))
      obtain ⟨o1, q1⟩ := o0.set1 k (s + 8 * (k : Int) + 1)
      obtain ⟨o2, q2⟩ := o1.set2 k (s + 8 * (k : Int) + 1 + 1)
      obtain ⟨o3, q3⟩ := o2.set3 k (s + 8 * (k : Int) + 1 + 1 + 1)
      obtain ⟨o4, q4⟩ := o3.set4 k (s + 8 * (k : Int) + 1 + 1 + 1 + 1)
      obtain ⟨o5, q5⟩ := o4.set5 k (s + 8 * (k : Int) + 1 + 1 + 1 + 1 + 1)
      obtain ⟨o6, q6⟩ := o5.set6 k (s + 8 * (k : Int) + 1 + 1 + 1 + 1 + 1 + 1)
      obtain ⟨o7, q7⟩ := o6.set7 k (s + 8 * (k : Int) + 1 + 1 + 1 + 1 + 1 + 1 + 1)
      obtain ⟨hd0, hd1, hd2, hd3, hd4, hd5, hd6, hd7⟩ := hown.at k (by rw [Own8.len hown]; exact t)
      have hf0 := hown.free (k * 8)
      have hf1 := hown.free (k * 8 + 1)
      have hf2 := hown.free (k * 8 + 2)
      have hf3 := hown.free (k * 8 + 3)
      have hf4 := hown.free (k * 8 + 4)
      have hf5 := hown.free (k * 8 + 5)
      have hf6 := hown.free (k * 8 + 6)
      have hf7 := hown.free (k * 8 + 7)
      rw [marked_step s ps n k hl t] at o7
      have HO := hide o7
      have HG := hide (grown_trans (grown_trans (grown_trans (grown_trans (grown_trans (grown_trans (grown_trans (grown_trans hg q0) q1) q2) q3) q4) q5) q6) q7)
      clear hown hg o0 q0 o1 q1 o2 q2 o3 q3 o4 q4 o5 q5 o6 q6 o7 q7
      generalize (el8 (marked s ps n k) k).1 = z0 at hd0
      generalize (el8 (marked s ps n k) k).2.1 = z1 at hd1
      generalize (el8 (marked s ps n k) k).2.2.1 = z2 at hd2
      generalize (el8 (marked s ps n k) k).2.2.2.1 = z3 at hd3
      generalize (el8 (marked s ps n k) k).2.2.2.2.1 = z4 at hd4
      generalize (el8 (marked s ps n k) k).2.2.2.2.2.1 = z5 at hd5
      generalize (el8 (marked s ps n k) k).2.2.2.2.2.2.1 = z6 at hd6
      generalize (el8 (marked s ps n k) k).2.2.2.2.2.2.2 = z7 at hd7
      have r1 : IntKind.i64.wrap (s + 8 * (k : Int) + 1) = s + 8 * (k : Int) + 1 := by rw [IntKind.wrap_i64]; omega
      have r2 : IntKind.i64.wrap (s + 8 * (k : Int) + 1 + 1) = s + 8 * (k : Int) + 1 + 1 := by rw [IntKind.wrap_i64]; omega
      have r3 : IntKind.i64.wrap (s + 8 * (k : Int) + 1 + 1 + 1) = s + 8 * (k : Int) + 1 + 1 + 1 := by rw [IntKind.wrap_i64]; omega
      have r4 : IntKind.i64.wrap (s + 8 * (k : Int) + 1 + 1 + 1 + 1) = s + 8 * (k : Int) + 1 + 1 + 1 + 1 := by rw [IntKind.wrap_i64]; omega
      have r5 : IntKind.i64.wrap (s + 8 * (k : Int) + 1 + 1 + 1 + 1 + 1) = s + 8 * (k : Int) + 1 + 1 + 1 + 1 + 1 := by rw [IntKind.wrap_i64]; omega
      have r6 : IntKind.i64.wrap (s + 8 * (k : Int) + 1 + 1 + 1 + 1 + 1 + 1) = s + 8 * (k : Int) + 1 + 1 + 1 + 1 + 1 + 1 := by rw [IntKind.wrap_i64]; omega
      have r7 : IntKind.i64.wrap (s + 8 * (k : Int) + 1 + 1 + 1 + 1 + 1 + 1 + 1) = s + 8 * (k : Int) + 1 + 1 + 1 + 1 + 1 + 1 + 1 := by rw [IntKind.wrap_i64]; omega
      have r8 : IntKind.i64.wrap (s + 8 * (k : Int) + 1 + 1 + 1 + 1 + 1 + 1 + 1 + 1) = s + 8 * (k : Int) + 1 + 1 + 1 + 1 + 1 + 1 + 1 + 1 := by rw [IntKind.wrap_i64]; omega
      go_wp2
      go_roundw
      case rel => exact ⟨k + 1, by omega, by go_num, by go_num, unhide HO, unhide HG⟩
      case measure => simp [intOf]; omega
    · obtain rfl : k = n := by omega
      rw [marked_all s ps k hl] at hown
      have HO := hide hown
      have HG := hide hg
      clear hown hg
      go_wp2
      go_ret
      exact ⟨rfl, unhide HO, unhide HG⟩
end Go.Proofs.YtefcigaalgfmiaaGreatDoor.TradeHelp
namespace Go.Proofs.YtefcigaalgfmiaaGreatDoor.TradeHeld
open Go.ChangeShapes Go.WideShapes Go.ChangeAt Go.RowKit Tup8
open TradeHelp (marks marks_len marks_getD)
set_option maxRecDepth 100000 in
theorem heldS (w : World) (g n cap : Nat) (s : Int) (h20 : n ≤ 1048576) (s0 : 0 ≤ s) (s1 : s ≤ 100000000) (h : At8 w g (marks s n)) :
    Calls Tryz.prog 31 #[.slice (some ⟨g, 0, none⟩) n cap, .int .i64 s] w fun e w' => e = .returned (.int .i64 (s + 8 * (n : Int))) ∧ w' = w := by
  go_enter Tryz.func31, Tryz.ntmps31
  go_wp2
  go_loop [1, 5] (fun m i => ∃ (k : Nat), k ≤ n ∧ i = .int .i64 k ∧ m = .int .i64 (s + 8 * (k : Int))) (fun _ i => n - (intOf i).toNat)
  case atStart => exact ⟨0, by omega, rfl, by go_num⟩
  case round =>
    obtain ⟨k, hk, rfl, rfl⟩ := hrel
    by_cases t : k < n
    · obtain ⟨e0, e1, e2, e3, e4, e5, e6, e7⟩ := h k (by rw [marks_len]; exact t)
      rw [marks_getD s n k t] at e0 e1 e2 e3 e4 e5 e6 e7
      have e2 : w.cell? ⟨g, k * 8 + 2, none⟩ = some (.int .i64 (s + 8 * (k : Int) + 1 + 1)) := by rw [e2]; simp; omega
      have e3 : w.cell? ⟨g, k * 8 + 3, none⟩ = some (.int .i64 (s + 8 * (k : Int) + 1 + 1 + 1)) := by rw [e3]; simp; omega
      have e4 : w.cell? ⟨g, k * 8 + 4, none⟩ = some (.int .i64 (s + 8 * (k : Int) + 1 + 1 + 1 + 1)) := by rw [e4]; simp; omega
      have e5 : w.cell? ⟨g, k * 8 + 5, none⟩ = some (.int .i64 (s + 8 * (k : Int) + 1 + 1 + 1 + 1 + 1)) := by rw [e5]; simp; omega
      have e6 : w.cell? ⟨g, k * 8 + 6, none⟩ = some (.int .i64 (s + 8 * (k : Int) + 1 + 1 + 1 + 1 + 1 + 1)) := by rw [e6]; simp; omega
      have e7 : w.cell? ⟨g, k * 8 + 7, none⟩ = some (.int .i64 (s + 8 * (k : Int) + 1 + 1 + 1 + 1 + 1 + 1 + 1)) := by rw [e7]; simp; omega
      clear h
      go_wp2
      go_round
      case rel => exact ⟨k + 1, by omega, by go_num, by go_num⟩
      case measure => simp [intOf]; omega
    · obtain rfl : k = n := by omega
      clear h
      go_wp2
      go_ret
      exact ⟨rfl, rfl⟩
end Go.Proofs.YtefcigaalgfmiaaGreatDoor.TradeHeld
namespace Go.Proofs.YtefcigaalgfmiaaGreatDoor.BHelp
open Go.ChangeShapes Go.WideShapes Go.ChangeAt Go.RowKit BMem Bks ILists
open IBalsFit (St one_more)
/-- Books that came in. -/
structure Ix where
  aa : Option Addr
  ca : Nat
  ai : Option Addr
  ci : Nat
  ab : Option Addr
  cb : Nat
  al : Option Addr
  cl : Nat
  ats : Option Addr
  ct : Nat
  b : Bk
/-- What is read of them. -/
structure RdI (w : World) (y : Ix) : Prop where
  ra : Pairs.Reads w y.aa y.b.ac
  ri : Pairs.Reads w y.ai y.b.ic
  rb : Triples.Reads3 w y.ab y.b.bs
  rl : Tup5.Reads5 w y.al y.b.ls
  rt : Tup8.Reads8 w y.ats y.b.ts
theorem RdI.below {w w' : World} {y : Ix} (h : RdI w y) (k : Below w.heap.size w w') : RdI w' y :=
  ⟨h.ra.below k, h.ri.below k, h.rb.below k, h.rl.below k, h.rt.below k⟩
/-- The cells of books that came in, in a block. -/
structure ClI (w : World) (g : Nat) (y : Ix) : Prop where
  c0 : w.cell? ⟨g, 0, none⟩ = some (.slice y.aa y.b.ac.length y.ca)
  c1 : w.cell? ⟨g, 1, none⟩ = some (.slice y.ai y.b.ic.length y.ci)
  c2 : w.cell? ⟨g, 2, none⟩ = some (.slice y.ab y.b.bs.length y.cb)
  c3 : w.cell? ⟨g, 3, none⟩ = some (.slice y.al y.b.ls.length y.cl)
  c4 : w.cell? ⟨g, 4, none⟩ = some (.slice y.ats y.b.ts.length y.ct)
  c5 : w.cell? ⟨g, 5, none⟩ = some (.int .i64 y.b.lot)
theorem ClI.below {w w' : World} {B g : Nat} {y : Ix} (h : ClI w g y) (k : Below B w w') (hg : g < B) : ClI w' g y :=
  ⟨(k.cell (p := ⟨g, 0, none⟩) hg).trans h.c0, (k.cell (p := ⟨g, 1, none⟩) hg).trans h.c1, (k.cell (p := ⟨g, 2, none⟩) hg).trans h.c2, (k.cell (p := ⟨g, 3, none⟩) hg).trans h.c3, (k.cell (p := ⟨g, 4, none⟩) hg).trans h.c4, (k.cell (p := ⟨g, 5, none⟩) hg).trans h.c5⟩
def Lo (x : Bx) (N : Nat) : Prop := N ≤ x.ga ∧ N ≤ x.gi ∧ N ≤ x.gb ∧ N ≤ x.gl ∧ N ≤ x.gt
/-- Nothing but the lists of x has turned. -/
structure Turn (x : Bx) (w w' : World) : Prop where
  os : w'.os = w.os
  tape : w'.tape = w.tape
  output : w'.output = w.output
  size : w.heap.size ≤ w'.heap.size
  block : ∀ k, k < w.heap.size → k ≠ x.ga → k ≠ x.gi → k ≠ x.gb → k ≠ x.gl → k ≠ x.gt → w'.heap[k]? = w.heap[k]?
theorem Turn.refl (x : Bx) (w : World) : Turn x w w := ⟨rfl, rfl, rfl, Nat.le_refl _, fun _ _ _ _ _ _ _ => rfl⟩
theorem Turn.grown {x : Bx} {w u v : World} {g : Nat} (h : Turn x w u) (k : u.grownBy v (some g)) (hg : g = x.ga ∨ g = x.gi ∨ g = x.gb ∨ g = x.gl ∨ g = x.gt) : Turn x w v :=
  ⟨k.os.trans h.os, k.tape.trans h.tape, k.output.trans h.output, Nat.le_trans h.size k.size, fun j hj a b c d e => (k.block j (Nat.lt_of_lt_of_le hj h.size) (fun q => by injection q with q; omega)).trans (h.block j hj a b c d e)⟩
theorem Turn.alloc {x : Bx} {w u : World} (h : Turn x w u) (o : Obj) : Turn x w (u.alloc o) :=
  ⟨h.os, h.tape, h.output, by have := h.size; simp; omega, fun j hj a b c d e => (Below.heap_alloc u o j (Nat.lt_of_lt_of_le hj h.size)).trans (h.block j hj a b c d e)⟩
theorem Turn.below {x : Bx} {w u : World} {B : Nat} (h : Turn x w u) (hB : B ≤ w.heap.size) (lo : Lo x B) : Below B w u :=
  ⟨h.os, h.tape, h.output, h.size, fun k hk => h.block k (by omega) (by have := lo.1; omega) (by have := lo.2.1; omega) (by have := lo.2.2.1; omega) (by have := lo.2.2.2.1; omega) (by have := lo.2.2.2.2; omega)⟩
/-- On the way to a copy: what came in, the copy so far, and the answer's variable. -/
structure TB (w W : World) (y : Ix) (v0 v1 v2 v3 v4 v5 : Value) : Prop where
  b : Below w.heap.size w W
  ci : ClI W w.heap.size y
  o : Box W w.heap.size (w.heap.size + 1 + 1) v0 v1 v2 v3 v4 v5
  r : Box W w.heap.size (w.heap.size + 1) (.slice none 0 0) (.slice none 0 0) (.slice none 0 0) (.slice none 0 0) (.slice none 0 0) (.int .i64 0)
section
variable {w W W' : World} {y : Ix} {v0 v1 v2 v3 v4 v5 : Value}
theorem TB.call (h : TB w W y v0 v1 v2 v3 v4 v5) (k : Below W.heap.size W W') : TB w W' y v0 v1 v2 v3 v4 v5 := by
  have l := h.o.lt
  exact ⟨h.b.trans (k.mono h.b.size), h.ci.below k (by omega), h.o.below k (by omega), h.r.below k (by omega)⟩
theorem TB.set0 (h : TB w W y v0 v1 v2 v3 v4 v5) (u : Value) : TB w (W.setCell ⟨w.heap.size + 1 + 1, 0, none⟩ u) y u v1 v2 v3 v4 v5 := by
  obtain ⟨b, g⟩ := h.o.set0 u
  have n0 : some w.heap.size ≠ some (w.heap.size + 1 + 1) := fun e => by injection e; omega
  exact ⟨h.b.setCell (by simp; omega) u, ⟨g.cell h.ci.c0 n0, g.cell h.ci.c1 n0, g.cell h.ci.c2 n0, g.cell h.ci.c3 n0, g.cell h.ci.c4 n0, g.cell h.ci.c5 n0⟩, b, h.r.kept g (fun e => by injection e; omega)⟩
theorem TB.set1 (h : TB w W y v0 v1 v2 v3 v4 v5) (u : Value) : TB w (W.setCell ⟨w.heap.size + 1 + 1, 1, none⟩ u) y v0 u v2 v3 v4 v5 := by
  obtain ⟨b, g⟩ := h.o.set1 u
  have n0 : some w.heap.size ≠ some (w.heap.size + 1 + 1) := fun e => by injection e; omega
  exact ⟨h.b.setCell (by simp; omega) u, ⟨g.cell h.ci.c0 n0, g.cell h.ci.c1 n0, g.cell h.ci.c2 n0, g.cell h.ci.c3 n0, g.cell h.ci.c4 n0, g.cell h.ci.c5 n0⟩, b, h.r.kept g (fun e => by injection e; omega)⟩
theorem TB.set2 (h : TB w W y v0 v1 v2 v3 v4 v5) (u : Value) : TB w (W.setCell ⟨w.heap.size + 1 + 1, 2, none⟩ u) y v0 v1 u v3 v4 v5 := by
  obtain ⟨b, g⟩ := h.o.set2 u
  have n0 : some w.heap.size ≠ some (w.heap.size + 1 + 1) := fun e => by injection e; omega
  exact ⟨h.b.setCell (by simp; omega) u, ⟨g.cell h.ci.c0 n0, g.cell h.ci.c1 n0, g.cell h.ci.c2 n0, g.cell h.ci.c3 n0, g.cell h.ci.c4 n0, g.cell h.ci.c5 n0⟩, b, h.r.kept g (fun e => by injection e; omega)⟩
theorem TB.set3 (h : TB w W y v0 v1 v2 v3 v4 v5) (u : Value) : TB w (W.setCell ⟨w.heap.size + 1 + 1, 3, none⟩ u) y v0 v1 v2 u v4 v5 := by
  obtain ⟨b, g⟩ := h.o.set3 u
  have n0 : some w.heap.size ≠ some (w.heap.size + 1 + 1) := fun e => by injection e; omega
  exact ⟨h.b.setCell (by simp; omega) u, ⟨g.cell h.ci.c0 n0, g.cell h.ci.c1 n0, g.cell h.ci.c2 n0, g.cell h.ci.c3 n0, g.cell h.ci.c4 n0, g.cell h.ci.c5 n0⟩, b, h.r.kept g (fun e => by injection e; omega)⟩
theorem TB.set4 (h : TB w W y v0 v1 v2 v3 v4 v5) (u : Value) : TB w (W.setCell ⟨w.heap.size + 1 + 1, 4, none⟩ u) y v0 v1 v2 v3 u v5 := by
  obtain ⟨b, g⟩ := h.o.set4 u
  have n0 : some w.heap.size ≠ some (w.heap.size + 1 + 1) := fun e => by injection e; omega
  exact ⟨h.b.setCell (by simp; omega) u, ⟨g.cell h.ci.c0 n0, g.cell h.ci.c1 n0, g.cell h.ci.c2 n0, g.cell h.ci.c3 n0, g.cell h.ci.c4 n0, g.cell h.ci.c5 n0⟩, b, h.r.kept g (fun e => by injection e; omega)⟩
theorem TB.set5 (h : TB w W y v0 v1 v2 v3 v4 v5) (u : Value) : TB w (W.setCell ⟨w.heap.size + 1 + 1, 5, none⟩ u) y v0 v1 v2 v3 v4 u := by
  obtain ⟨b, g⟩ := h.o.set5 u
  have n0 : some w.heap.size ≠ some (w.heap.size + 1 + 1) := fun e => by injection e; omega
  exact ⟨h.b.setCell (by simp; omega) u, ⟨g.cell h.ci.c0 n0, g.cell h.ci.c1 n0, g.cell h.ci.c2 n0, g.cell h.ci.c3 n0, g.cell h.ci.c4 n0, g.cell h.ci.c5 n0⟩, b, h.r.kept g (fun e => by injection e; omega)⟩
end
end Go.Proofs.YtefcigaalgfmiaaGreatDoor.BHelp
namespace Go.Proofs.YtefcigaalgfmiaaGreatDoor.LotApp
open Go.ChangeShapes Go.WideShapes Go.ChangeAt Go.RowKit Tup5
theorem info2 : (Tryz.prog.info? 48).map (fun i => (i.zero, i.size, i.bytes)) = some (some (.agg #[.int .i64 0, .int .i64 0, .int .i64 0, .int .i64 0, .int .i64 0]), 5, 40) := by kernel_rfl
theorem wp_app (u : World) {ops : Array Oper} {rest : List Oper} {o : Oper} {a : Act} {Q : Exit → Act → World → Prop} (hgd : o.guard = none) (s x : Operand)
    (ho : o.op = .call { callee := .builtin .append, args := #[s, x], argTypes := #[26, 26] }) (base g n cap : Nat) (ps : List T5) (vb : Nat) (x0 x1 x2 x3 x4 : Int)
    (hs : a.eval s = .slice (some ⟨g, 0, none⟩) n cap) (hx : a.eval x = .slice (some ⟨vb, 0, none⟩) 1 1) (hown : Own5 48 u base g n cap ps) (hv : Holds5 u vb 0 (x0, x1, x2, x3, x4)) (hn : n ≤ 1048576) (hb : base ≤ u.heap.size)
    (h : ∀ g' c' w', Own5 48 w' base g' (n + 1) c' (ps ++ [(x0, x1, x2, x3, x4)]) → u.grownBy w' (some g) → (g' = g ∨ g' = u.heap.size) → wpList Tryz.prog ops Q rest (a.put o.dst (.slice (some ⟨g', 0, none⟩) (n + 1) c')) w') : wpList Tryz.prog ops Q (o :: rest) a u := by
  obtain ⟨i0, hi, hz0, hz1, hz2⟩ := info_parts info2
  have hat : At5 u vb [(x0, x1, x2, x3, x4)] := by
    intro i hi
    obtain rfl : i = 0 := by simpa using hi
    exact hv
  refine wpList_append_own_at u hgd s x 26 ho base 48 i0 (.agg #[.int .i64 0, .int .i64 0, .int .i64 0, .int .i64 0, .int .i64 0]) 5 40 Tryz.underlying26 hi hz0 hz1 hz2 rfl (by decide) _ n _ hs hown ⟨vb, 0, none⟩ 1 1 (flat5 [(x0, x1, x2, x3, x4)]) hx rfl hat.cells (fun u hu => flat5_one u _ hu) (by unfold maxLen; omega) (by omega) hb ?_
  intro v' w' own' gr' nil' loc'
  obtain ⟨g', c', rfl, o'⟩ := own5_of_row (n' := n + 1) (ps := ps ++ [(x0, x1, x2, x3, x4)]) own' rfl (by rw [flat5_append]) (by rw [nil']; simp)
  exact h g' c' w' o' gr' (by simpa [Value.ownBlock] using loc')
end Go.Proofs.YtefcigaalgfmiaaGreatDoor.LotApp
namespace Go.Proofs.YtefcigaalgfmiaaGreatDoor.SSplit
open Go.ChangeShapes Go.WideShapes Go.ChangeAt Go.RowKit Tup5 Lots Takes SOk5 Quieter
set_option maxRecDepth 100000 in
set_option maxHeartbeats 4000000 in
theorem sSplit (w : World) (g n cap : Nat) (ps : List T5) (a i : Int) (hl : ps.length = n) (h20 : n ≤ 100000) (hg : g < w.heap.size) (h : At5 w g ps) :
    Calls Tryz.prog 59 #[.slice (some ⟨g, 0, none⟩) n cap, .int .i64 a, .int .i64 i] w fun e w' => ∃ g1 c1 g2 c2, e = .returned (.tuple #[.slice (some ⟨g1, 0, none⟩) (ownL ps a i).length c1, .slice (some ⟨g2, 0, none⟩) (restL ps a i).length c2]) ∧ Own5 48 w' w.heap.size g1 (ownL ps a i).length c1 (ownL ps a i) ∧ Own5 48 w' w.heap.size g2 (restL ps a i).length c2 (restL ps a i) ∧ g1 ≠ g2 ∧ Below w.heap.size w w' := by
  have H := hide h
  clear h
  have O1 := hide ((lit50 48 w w.heap.size (Nat.le_refl _)).alloc (.cells #[] 48))
  have O2 := hide (lit50 48 (w.alloc (.cells #[] 48)) w.heap.size (by simp))
  have B0 := hide (show Below w.heap.size w ((w.alloc (.cells #[] 48)).alloc (.cells #[] 48)) from ((Below.refl _ _).alloc (Nat.le_refl _) _).alloc (by simp) _)
  simp only [World.size_alloc] at O2
  go_enter Tryz.func59, Tryz.ntmps59
  go_wp2
  generalize (w.alloc (.cells #[] 48)).alloc (.cells #[] 48) = w0 at *
  go_loopw [8, 9, 10] (fun l m j wr => ∃ (p q : List T5) (g1 c1 g2 c2 k : Nat), l = .slice (some ⟨g1, 0, none⟩) p.length c1 ∧ m = .slice (some ⟨g2, 0, none⟩) q.length c2 ∧ j = .int .i64 k ∧ k ≤ n ∧ p.length ≤ k ∧ q.length ≤ k ∧ g1 ≠ g2 ∧ Hid (p = ownL (ps.take k) a i) ∧ Hid (q = restL (ps.take k) a i) ∧ Hid (Own5 48 wr w.heap.size g1 p.length c1 p) ∧ Hid (Own5 48 wr w.heap.size g2 q.length c2 q) ∧ Hid (Below w.heap.size w wr)) (fun _ _ j _ => n - (intOf j).toNat)
  case atStart => exact ⟨[], [], w.heap.size, 0, w.heap.size + 1, 0, 0, rfl, rfl, rfl, by omega, by simp, by simp, by omega, hide rfl, hide rfl, O1, O2, B0⟩
  case round =>
    clear O1 O2 B0
    obtain ⟨p, q, g1, c1, g2, c2, k, rfl, rfl, rfl, hk, pl, ql, g12, HP, HQ, H1, H2, HB⟩ := hrel
    have bs := (unhide HB).size
    have gl1 := (unhide H1).lt.2
    have gl2 := (unhide H2).lt.2
    by_cases t : k < n
    · obtain ⟨e0, e1, e2, e3, e4⟩ := (unhide H).below (unhide HB) hg k (by omega)
      have NP := hide (own_next (ps := ps) (k := k) (by omega) a i)
      have NQ := hide (rest_next (ps := ps) (k := k) (by omega) a i)
      rw [← unhide HP] at NP
      rw [← unhide HQ] at NQ
      have EQ : el5 ps k = ((el5 ps k).1, (el5 ps k).2.1, (el5 ps k).2.2.1, (el5 ps k).2.2.2.1, (el5 ps k).2.2.2.2) := rfl
      rw [EQ] at NP NQ
      clear EQ HP HQ
      generalize (el5 ps k).1 = x0 at *
      generalize (el5 ps k).2.1 = x1 at *
      generalize (el5 ps k).2.2.1 = x2 at *
      generalize (el5 ps k).2.2.2.1 = x3 at *
      generalize (el5 ps k).2.2.2.2 = x4 at *
      have V5 := hide (show Holds5 (wr.alloc (.cells #[.int .i64 x0, .int .i64 x1, .int .i64 x2, .int .i64 x3, .int .i64 x4] 48)) wr.heap.size 0 (x0, x1, x2, x3, x4) from by unfold Holds5; simp)
      by_cases own : x0 = a ∧ x1 = i
      · have NP1 : Hid (ownL (ps.take (k + 1)) a i = p ++ [(x0, x1, x2, x3, x4)]) := hide (by rw [unhide NP, if_pos own])
        have NQ1 : Hid (restL (ps.take (k + 1)) a i = q) := hide (by rw [unhide NQ, if_pos own, List.append_nil])
        clear NP NQ
        obtain ⟨rfl, rfl⟩ := own
        go_wp2_with (first | (at_builtin; refine LotApp.wp_app _ rfl _ _ rfl w.heap.size g1 p.length c1 p wr.heap.size x0 x1 x2 x3 x4 rfl rfl ((unhide H1).alloc _) (unhide V5) (by omega) (by simp; omega) ?_) | go_in)
        intro g5 c5 w5 o5 gr5 loc5
        have O5 := hide o5
        have K5 := hide (((unhide H2).alloc (.cells #[.int .i64 x0, .int .i64 x1, .int .i64 x2, .int .i64 x3, .int .i64 x4] 48)).kept gr5 (by simp; omega))
        have B5 := hide (((unhide HB).alloc bs (.cells #[.int .i64 x0, .int .i64 x1, .int .i64 x2, .int .i64 x3, .int .i64 x4] 48)).grown gr5 (by simp; omega) (fun j hj => by cases hj; exact (unhide H1).lt.1))
        have g5B : g5 ≠ g2 := by
          try simp at loc5
          omega
        clear o5 gr5 loc5 V5
        go_wp2
        go_roundw
        case rel => exact ⟨p ++ [(x0, x1, x2, x3, x4)], q, g5, c5, g2, c2, k + 1, by rw [show (p ++ [(x0, x1, x2, x3, x4)]).length = p.length + 1 by simp], rfl, by go_num, by omega, by simp; omega, by omega, g5B, hide (unhide NP1).symm, hide (unhide NQ1).symm, hide (by rw [show (p ++ [(x0, x1, x2, x3, x4)]).length = p.length + 1 by simp]; exact unhide O5), K5, B5⟩
        case measure => simp [intOf]; omega
      · have NP1 : Hid (ownL (ps.take (k + 1)) a i = p) := hide (by rw [unhide NP, if_neg own, List.append_nil])
        have NQ1 : Hid (restL (ps.take (k + 1)) a i = q ++ [(x0, x1, x2, x3, x4)]) := hide (by rw [unhide NQ, if_neg own])
        clear NP NQ
        rcases (show x0 ≠ a ∨ (x0 = a ∧ x1 ≠ i) by omega) with o2 | ⟨rfl, o2⟩
        · have ob : (x0 == a) = false := by simpa using o2
          go_wp2_with (first | (at_builtin; refine LotApp.wp_app _ rfl _ _ rfl w.heap.size g2 q.length c2 q wr.heap.size x0 x1 x2 x3 x4 rfl rfl ((unhide H2).alloc _) (unhide V5) (by omega) (by simp; omega) ?_) | go_in)
          intro g5 c5 w5 o5 gr5 loc5
          have O5 := hide o5
          have K5 := hide (((unhide H1).alloc (.cells #[.int .i64 x0, .int .i64 x1, .int .i64 x2, .int .i64 x3, .int .i64 x4] 48)).kept gr5 (by simp; omega))
          have B5 := hide (((unhide HB).alloc bs (.cells #[.int .i64 x0, .int .i64 x1, .int .i64 x2, .int .i64 x3, .int .i64 x4] 48)).grown gr5 (by simp; omega) (fun j hj => by cases hj; exact (unhide H2).lt.1))
          have g5B : g5 ≠ g1 := by
            try simp at loc5
            omega
          clear o5 gr5 loc5 V5
          go_wp2
          go_roundw
          case rel => exact ⟨p, q ++ [(x0, x1, x2, x3, x4)], g1, c1, g5, c5, k + 1, rfl, by rw [show (q ++ [(x0, x1, x2, x3, x4)]).length = q.length + 1 by simp], by go_num, by omega, by omega, by simp; omega, fun e => g5B e.symm, hide (unhide NP1).symm, hide (unhide NQ1).symm, K5, hide (by rw [show (q ++ [(x0, x1, x2, x3, x4)]).length = q.length + 1 by simp]; exact unhide O5), B5⟩
          case measure => simp [intOf]; omega
        · have ob : (x1 == i) = false := by simpa using o2
          go_wp2_with (first | (at_builtin; refine LotApp.wp_app _ rfl _ _ rfl w.heap.size g2 q.length c2 q wr.heap.size x0 x1 x2 x3 x4 rfl rfl ((unhide H2).alloc _) (unhide V5) (by omega) (by simp; omega) ?_) | go_in)
          intro g5 c5 w5 o5 gr5 loc5
          have O5 := hide o5
          have K5 := hide (((unhide H1).alloc (.cells #[.int .i64 x0, .int .i64 x1, .int .i64 x2, .int .i64 x3, .int .i64 x4] 48)).kept gr5 (by simp; omega))
          have B5 := hide (((unhide HB).alloc bs (.cells #[.int .i64 x0, .int .i64 x1, .int .i64 x2, .int .i64 x3, .int .i64 x4] 48)).grown gr5 (by simp; omega) (fun j hj => by cases hj; exact (unhide H2).lt.1))
          have g5B : g5 ≠ g1 := by
            try simp at loc5
            omega
          clear o5 gr5 loc5 V5
          go_wp2
          go_roundw
          case rel => exact ⟨p, q ++ [(x0, x1, x2, x3, x4)], g1, c1, g5, c5, k + 1, rfl, by rw [show (q ++ [(x0, x1, x2, x3, x4)]).length = q.length + 1 by simp], by go_num, by omega, by omega, by simp; omega, fun e => g5B e.symm, hide (unhide NP1).symm, hide (unhide NQ1).symm, K5, hide (by rw [show (q ++ [(x0, x1, x2, x3, x4)]).length = q.length + 1 by simp]; exact unhide O5), B5⟩
          case measure => simp [intOf]; omega
    · obtain rfl : k = n := by omega
      have EP := hide (show p = ownL ps a i by rw [unhide HP, List.take_of_length_le (by omega)])
      have EQ := hide (show q = restL ps a i by rw [unhide HQ, List.take_of_length_le (by omega)])
      clear HP HQ
      go_wp2
      go_ret2
      rw [← unhide EP, ← unhide EQ]
      exact ⟨g1, c1, g2, c2, rfl, unhide H1, unhide H2, g12, unhide HB⟩
theorem take_sum {ps : List T5} (h : ∀ p ∈ ps, Pos p) (k : Nat) : 0 ≤ sumQ (ps.take k) ∧ sumQ (ps.take k) ≤ sumQ ps ∧ 0 ≤ sumC (ps.take k) ∧ sumC (ps.take k) ≤ sumC ps := by
  have e : ps = ps.take k ++ ps.drop k := (List.take_append_drop k ps).symm
  have p1 := sum_pos (ps.take k) (fun p hp => h p (List.mem_of_mem_take hp))
  have p2 := sum_pos (ps.drop k) (fun p hp => h p (List.mem_of_mem_drop hp))
  have e1 := sumQ_append (ps.take k) (ps.drop k)
  have e2 := sumC_append (ps.take k) (ps.drop k)
  rw [← e] at e1 e2
  omega
set_option maxRecDepth 100000 in
theorem sQty (w : World) (g n cap : Nat) (ps : List T5) (hl : ps.length = n) (h20 : n ≤ 1048576) (h : At5 w g ps) (hp : ∀ p ∈ ps, Pos p) (hs : sumQ ps ≤ 1000000000000000) :
    Calls Tryz.prog 60 #[.slice (some ⟨g, 0, none⟩) n cap] w fun e w' => e = .returned (.int .i64 (sumQ ps)) ∧ Below w.heap.size w w' := by
  have HP := hide hp
  clear hp
  go_enter Tryz.func60, Tryz.ntmps60
  go_wp2
  go_loopw [3, 4] (fun q j wr => ∃ (k : Nat) (s : Int), q = .int .i64 s ∧ j = .int .i64 k ∧ k ≤ n ∧ At5 wr g ps ∧ Hid (s = sumQ (ps.take k)) ∧ Hid (Below w.heap.size w wr)) (fun _ j _ => n - (intOf j).toNat)
  case atStart => exact ⟨0, 0, rfl, rfl, by omega, h, hide rfl, hide (Below.refl _ _)⟩
  case round =>
    clear h
    obtain ⟨k, s, rfl, rfl, hk, h, HS, HB⟩ := hrel
    have ts := take_sum (unhide HP) k
    have s0 : 0 ≤ s := by rw [unhide HS]; omega
    by_cases t : k < n
    · obtain ⟨e0, e1, e2, e3, e4⟩ := h k (by omega)
      have ts1 := take_sum (unhide HP) (k + 1)
      have NX := hide (sumQ_next (ps := ps) (k := k) (by omega))
      rw [← unhide HS] at NX
      have xp := (unhide HP) _ (getD_mem (ps := ps) (i := k) (by omega))
      unfold Pos at xp
      have b1 : s + (el5 ps k).2.2.2.1 ≤ 1000000000000000 := by rw [← unhide NX]; omega
      have HA := hide h
      clear h HS ts ts1
      obtain ⟨⟨x31, x32⟩, x41, x42⟩ := xp
      generalize (el5 ps k).1 = x0 at *
      generalize (el5 ps k).2.1 = x1 at *
      generalize (el5 ps k).2.2.1 = x2 at *
      generalize (el5 ps k).2.2.2.1 = x3 at *
      generalize (el5 ps k).2.2.2.2 = x4 at *
      have wS : IntKind.i64.wrap (s + x3) = s + x3 := by rw [IntKind.wrap_i64]; omega
      go_wp2
      go_roundw
      case rel => exact ⟨k + 1, s + x3, rfl, by go_num, by omega, unhide HA, hide (unhide NX).symm, HB⟩
      case measure => simp [intOf]; omega
    · obtain rfl : k = n := by omega
      have E := hide (show s = sumQ ps by rw [unhide HS, List.take_of_length_le (by omega)])
      clear h HS ts
      go_wp2
      go_ret
      exact ⟨by rw [← unhide E]; rfl, unhide HB⟩
end Go.Proofs.YtefcigaalgfmiaaGreatDoor.SSplit
namespace Go.Proofs.YtefcigaalgfmiaaGreatDoor.BMemV13
open Go.ChangeShapes Go.WideShapes Go.ChangeAt Go.RowKit BMem Bks BHelp
open Lots (Says says_of NoOk ownL restL)
open Bals (T3 el3 val sumI)
open Tup5 (T5 el5)
open Tup8 (T8 el8)
open IBalsFit (one_more)
open Pairs (below_drewN)
/-- What is read of books whose lists may be nil. -/
structure RdV (w : World) (x : Ix) : Prop where
  ea : x.b.ac.length ≠ 0 → ∃ g, x.aa = some ⟨g, 0, none⟩
  ra : ∀ g, x.aa = some ⟨g, 0, none⟩ → g < w.heap.size ∧ Pairs.At w g x.b.ac
  na : x.b.ac.length ≤ 1048576
  ei : x.b.ic.length ≠ 0 → ∃ g, x.ai = some ⟨g, 0, none⟩
  ri : ∀ g, x.ai = some ⟨g, 0, none⟩ → g < w.heap.size ∧ Pairs.At w g x.b.ic
  ni : x.b.ic.length ≤ 1048576
  eb : x.b.bs.length ≠ 0 → ∃ g, x.ab = some ⟨g, 0, none⟩
  rb : ∀ g, x.ab = some ⟨g, 0, none⟩ → g < w.heap.size ∧ Triples.At3 w g x.b.bs
  nb : x.b.bs.length ≤ 1048576
  el : x.b.ls.length ≠ 0 → ∃ g, x.al = some ⟨g, 0, none⟩
  rl : ∀ g, x.al = some ⟨g, 0, none⟩ → g < w.heap.size ∧ Tup5.At5 w g x.b.ls
  nl : x.b.ls.length ≤ 1048576
  et : x.b.ts.length ≠ 0 → ∃ g, x.ats = some ⟨g, 0, none⟩
  rt : ∀ g, x.ats = some ⟨g, 0, none⟩ → g < w.heap.size ∧ Tup8.At8 w g x.b.ts
  nt : x.b.ts.length ≤ 1048576
theorem RdV.below {w w' : World} {x : Ix} (h : RdV w x) (k : Below w.heap.size w w') : RdV w' x :=
  ⟨h.ea, fun g e => ⟨Nat.lt_of_lt_of_le (h.ra g e).1 k.size, (h.ra g e).2.below k (h.ra g e).1⟩, h.na, h.ei, fun g e => ⟨Nat.lt_of_lt_of_le (h.ri g e).1 k.size, (h.ri g e).2.below k (h.ri g e).1⟩, h.ni, h.eb, fun g e => ⟨Nat.lt_of_lt_of_le (h.rb g e).1 k.size, (h.rb g e).2.below k (h.rb g e).1⟩, h.nb, h.el, fun g e => ⟨Nat.lt_of_lt_of_le (h.rl g e).1 k.size, (h.rl g e).2.below k (h.rl g e).1⟩, h.nl, h.et, fun g e => ⟨Nat.lt_of_lt_of_le (h.rt g e).1 k.size, (h.rt g e).2.below k (h.rt g e).1⟩, h.nt⟩
/-- The cells of such books in a block. -/
structure ClV (w : World) (g : Nat) (x : Ix) : Prop where
  c0 : w.cell? ⟨g, 0, none⟩ = some (.slice x.aa x.b.ac.length x.ca)
  c1 : w.cell? ⟨g, 1, none⟩ = some (.slice x.ai x.b.ic.length x.ci)
  c2 : w.cell? ⟨g, 2, none⟩ = some (.slice x.ab x.b.bs.length x.cb)
  c3 : w.cell? ⟨g, 3, none⟩ = some (.slice x.al x.b.ls.length x.cl)
  c4 : w.cell? ⟨g, 4, none⟩ = some (.slice x.ats x.b.ts.length x.ct)
  c5 : w.cell? ⟨g, 5, none⟩ = some (.int .i64 x.b.lot)
theorem ClV.below {w w' : World} {B g : Nat} {x : Ix} (h : ClV w g x) (k : Below B w w') (hg : g < B) : ClV w' g x :=
  ⟨(k.cell (p := ⟨g, 0, none⟩) hg).trans h.c0, (k.cell (p := ⟨g, 1, none⟩) hg).trans h.c1, (k.cell (p := ⟨g, 2, none⟩) hg).trans h.c2, (k.cell (p := ⟨g, 3, none⟩) hg).trans h.c3, (k.cell (p := ⟨g, 4, none⟩) hg).trans h.c4, (k.cell (p := ⟨g, 5, none⟩) hg).trans h.c5⟩
structure StV (w W : World) (x : Ix) : Prop where
  r : RdV W x
  c : ClV W w.heap.size x
  b : Below w.heap.size w W
  s : w.heap.size < W.heap.size
theorem StV.step {w W W' : World} {x : Ix} (h : StV w W x) (k : Below W.heap.size W W') : StV w W' x :=
  ⟨h.r.below k, h.c.below k h.s, h.b.trans (k.mono (Nat.le_of_lt h.s)), Nat.lt_of_lt_of_le h.s k.size⟩
theorem StV.start {w : World} {x : Ix} (h : RdV w x) (e : TypeId) : StV w (w.alloc (.cells #[.slice x.aa x.b.ac.length x.ca, .slice x.ai x.b.ic.length x.ci, .slice x.ab x.b.bs.length x.cb, .slice x.al x.b.ls.length x.cl, .slice x.ats x.b.ts.length x.ct, .int .i64 x.b.lot] e)) x :=
  ⟨h.below (one_more _ _), ⟨by simp, by simp, by simp, by simp, by simp, by simp⟩, (Below.refl w.heap.size w).alloc (Nat.le_refl _) _, by simp⟩
set_option maxRecDepth 100000 in
theorem okA0 (w : World) (a : Option Addr) (c : Nat) : Calls Tryz.prog 33 #[.slice a 0 c] w fun e w' => e = .returned (.bool true) ∧ w' = w := by
  go_enter Tryz.func33, Tryz.ntmps33
  go_wp2
  go_loopw [3] (fun i wr => i = .int .i64 0 ∧ wr = w) (fun _ _ => 0)
  case atStart => exact ⟨rfl, rfl⟩
  case round =>
    obtain ⟨rfl, rfl⟩ := hrel
    go_wp2
    go_ret
    exact ⟨rfl, rfl⟩
set_option maxRecDepth 100000 in
theorem okI0 (w : World) (a : Option Addr) (c : Nat) : Calls Tryz.prog 34 #[.slice a 0 c] w fun e w' => e = .returned (.bool true) ∧ w' = w := by
  go_enter Tryz.func34, Tryz.ntmps34
  go_wp2
  go_loopw [3] (fun i wr => i = .int .i64 0 ∧ wr = w) (fun _ _ => 0)
  case atStart => exact ⟨rfl, rfl⟩
  case round =>
    obtain ⟨rfl, rfl⟩ := hrel
    go_wp2
    go_ret
    exact ⟨rfl, rfl⟩
set_option maxRecDepth 100000 in
theorem kindA0 (w : World) (a : Option Addr) (c : Nat) (no : Int) : Calls Tryz.prog 41 #[.slice a 0 c, .int .i64 no] w fun e w' => e = .returned (.int .i64 0) ∧ w' = w := by
  go_enter Tryz.func41, Tryz.ntmps41
  go_wp2
  go_loopw [5] (fun i wr => i = .int .i64 0 ∧ wr = w) (fun _ _ => 0)
  case atStart => exact ⟨rfl, rfl⟩
  case round =>
    obtain ⟨rfl, rfl⟩ := hrel
    go_wp2
    go_ret
    exact ⟨rfl, rfl⟩
set_option maxRecDepth 100000 in
theorem kindI0 (w : World) (a : Option Addr) (c : Nat) (no : Int) : Calls Tryz.prog 42 #[.slice a 0 c, .int .i64 no] w fun e w' => e = .returned (.int .i64 0) ∧ w' = w := by
  go_enter Tryz.func42, Tryz.ntmps42
  go_wp2
  go_loopw [5] (fun i wr => i = .int .i64 0 ∧ wr = w) (fun _ _ => 0)
  case atStart => exact ⟨rfl, rfl⟩
  case round =>
    obtain ⟨rfl, rfl⟩ := hrel
    go_wp2
    go_ret
    exact ⟨rfl, rfl⟩
set_option maxRecDepth 100000 in
theorem okB0 (w : World) (a : Option Addr) (c : Nat) : Calls Tryz.prog 35 #[.slice a 0 c] w fun e w' => e = .returned (.bool true) ∧ w' = w := by
  go_enter Tryz.func35, Tryz.ntmps35
  go_wp2
  go_loopw [3, 4] (fun i _ wr => i = .int .i64 0 ∧ wr = w) (fun _ _ _ => 0)
  case atStart => exact ⟨rfl, rfl⟩
  case round =>
    obtain ⟨rfl, rfl⟩ := hrel
    go_wp2
    go_ret
    exact ⟨rfl, rfl⟩
set_option maxRecDepth 100000 in
theorem okL0 (w : World) (a : Option Addr) (c : Nat) : Calls Tryz.prog 36 #[.slice a 0 c] w fun e w' => e = .returned (.bool true) ∧ w' = w := by
  go_enter Tryz.func36, Tryz.ntmps36
  go_wp2
  go_loopw [3, 4, 5, 6] (fun _ _ i _ wr => i = .int .i64 0 ∧ wr = w) (fun _ _ _ _ _ => 0)
  case atStart => exact ⟨rfl, rfl⟩
  case round =>
    obtain ⟨rfl, rfl⟩ := hrel
    go_wp2
    go_ret
    exact ⟨rfl, rfl⟩
set_option maxRecDepth 100000 in
theorem okT0 (w : World) (a : Option Addr) (c : Nat) : Calls Tryz.prog 37 #[.slice a 0 c] w fun e w' => e = .returned (.bool true) ∧ w' = w := by
  go_enter Tryz.func37, Tryz.ntmps37
  go_wp2
  go_loopw [3] (fun i wr => i = .int .i64 0 ∧ wr = w) (fun _ _ => 0)
  case atStart => exact ⟨rfl, rfl⟩
  case round =>
    obtain ⟨rfl, rfl⟩ := hrel
    go_wp2
    go_ret
    exact ⟨rfl, rfl⟩
set_option maxRecDepth 100000 in
theorem of0 (w : World) (a : Option Addr) (c : Nat) (p q : Int) : Calls Tryz.prog 61 #[.slice a 0 c, .int .i64 p, .int .i64 q] w fun e w' => e = .returned (.int .i64 0) ∧ w' = w := by
  go_enter Tryz.func61, Tryz.ntmps61
  go_wp2
  go_loopw [7] (fun i wr => i = .int .i64 0 ∧ wr = w) (fun _ _ => 0)
  case atStart => exact ⟨rfl, rfl⟩
  case round =>
    obtain ⟨rfl, rfl⟩ := hrel
    go_wp2
    go_ret
    exact ⟨rfl, rfl⟩
set_option maxRecDepth 100000 in
theorem split0 (w : World) (a : Option Addr) (c : Nat) (p q : Int) : Calls Tryz.prog 59 #[.slice a 0 c, .int .i64 p, .int .i64 q] w fun e w' => ∃ g1 c1 g2 c2, e = .returned (.tuple #[.slice (some ⟨g1, 0, none⟩) 0 c1, .slice (some ⟨g2, 0, none⟩) 0 c2]) ∧ Tup5.Own5 48 w' w.heap.size g1 0 c1 [] ∧ Below w.heap.size w w' := by
  have O1 := hide (show Tup5.Own5 48 ((w.alloc (.cells #[] 48)).alloc (.cells #[] 48)) w.heap.size w.heap.size 0 0 [] from World.ownsRow.alloc (World.ownsRow_lit w #[] 0 (Nat.le_refl _) (by decide) rfl) _)
  have B1 := hide ((one_more w (.cells #[] 48)).alloc (by simp) (.cells #[] 48))
  go_enter Tryz.func59, Tryz.ntmps59
  go_wp2
  go_loopw [8, 9, 10] (fun l m i wr => l = .slice (some ⟨w.heap.size, 0, none⟩) 0 0 ∧ m = .slice (some ⟨w.heap.size + 1, 0, none⟩) 0 0 ∧ i = .int .i64 0 ∧ wr = ((w.alloc (.cells #[] 48)).alloc (.cells #[] 48))) (fun _ _ _ _ => 0)
  case atStart => exact ⟨rfl, rfl, rfl, rfl⟩
  case round =>
    obtain ⟨rfl, rfl, rfl, rfl⟩ := hrel
    go_wp2
    go_ret2
    exact ⟨w.heap.size, 0, _, 0, rfl, unhide O1, unhide B1⟩
/-- The kind of an account. -/
theorem sKindA (w : World) (x : Ix) (no r : Int) (h : RdV w x) (hr : Chart.Right 20 4 x.b.ac) (hk : kindOf x.b.ac no = r) :
    Calls Tryz.prog 41 #[.slice x.aa x.b.ac.length x.ca, .int .i64 no] w fun e w' => e = .returned (.int .i64 r) ∧ Below w.heap.size w w' := by
  by_cases z : x.b.ac.length = 0
  · rw [z]
    have e : r = 0 := by rw [← hk, List.eq_nil_of_length_eq_zero z]; rfl
    exact (kindA0 w x.aa x.ca no).mono fun e' w' ⟨h1, h2⟩ => ⟨by rw [h1, e], by rw [h2]; exact Below.refl _ _⟩
  · obtain ⟨g, eg⟩ := h.ea z
    rw [eg]
    exact (AccountSOk.sKind w g _ x.ca x.b.ac no rfl h.na (h.ra g eg).2).mono fun e w' ⟨r', h1, h2, q, h3⟩ => ⟨by rw [h2, kind_is hr h1, hk], by rw [h3]; exact below_drewN (Below.refl _ _) q⟩
theorem sKindI (w : World) (x : Ix) (no r : Int) (h : RdV w x) (hr : Chart.Right 8 2 x.b.ic) (hk : kindOf x.b.ic no = r) :
    Calls Tryz.prog 42 #[.slice x.ai x.b.ic.length x.ci, .int .i64 no] w fun e w' => e = .returned (.int .i64 r) ∧ Below w.heap.size w w' := by
  by_cases z : x.b.ic.length = 0
  · rw [z]
    have e : r = 0 := by rw [← hk, List.eq_nil_of_length_eq_zero z]; rfl
    exact (kindI0 w x.ai x.ci no).mono fun e' w' ⟨h1, h2⟩ => ⟨by rw [h1, e], by rw [h2]; exact Below.refl _ _⟩
  · obtain ⟨g, eg⟩ := h.ei z
    rw [eg]
    exact (InstrSOk.sKind w g _ x.ci x.b.ic no rfl h.ni (h.ri g eg).2).mono fun e w' ⟨r', h1, h2, q, h3⟩ => ⟨by rw [h2, kind_is hr h1, hk], by rw [h3]; exact below_drewN (Below.refl _ _) q⟩
theorem sOksA (w : World) (x : Ix) (ok : Bool) (h : RdV w x) (hok : Chart.Says ok 20 4 x.b.ac) : Calls Tryz.prog 33 #[.slice x.aa x.b.ac.length x.ca] w fun e w' => e = .returned (.bool ok) ∧ Below w.heap.size w w' := by
  by_cases z : x.b.ac.length = 0
  · rw [z]
    have e : ok = true := hok.2 ⟨by omega, fun i hi => absurd hi (by omega)⟩
    exact (okA0 w x.aa x.ca).mono fun e' w' ⟨h1, h2⟩ => ⟨by rw [h1, e], by rw [h2]; exact Below.refl _ _⟩
  · obtain ⟨g, eg⟩ := h.ea z
    rw [eg]
    exact (AccountSOk.sOk w g _ x.ca x.b.ac ok rfl h.na (h.ra g eg).2 hok).mono fun e w' ⟨h1, q, h2⟩ => ⟨h1, by rw [h2]; exact below_drewN (Below.refl _ _) q⟩
theorem sOksI (w : World) (x : Ix) (ok : Bool) (h : RdV w x) (hok : Chart.Says ok 8 2 x.b.ic) : Calls Tryz.prog 34 #[.slice x.ai x.b.ic.length x.ci] w fun e w' => e = .returned (.bool ok) ∧ Below w.heap.size w w' := by
  by_cases z : x.b.ic.length = 0
  · rw [z]
    have e : ok = true := hok.2 ⟨by omega, fun i hi => absurd hi (by omega)⟩
    exact (okI0 w x.ai x.ci).mono fun e' w' ⟨h1, h2⟩ => ⟨by rw [h1, e], by rw [h2]; exact Below.refl _ _⟩
  · obtain ⟨g, eg⟩ := h.ei z
    rw [eg]
    exact (InstrSOk.sOk w g _ x.ci x.b.ic ok rfl h.ni (h.ri g eg).2 hok).mono fun e w' ⟨h1, q, h2⟩ => ⟨h1, by rw [h2]; exact below_drewN (Below.refl _ _) q⟩
theorem sOksB (w : World) (x : Ix) (ok : Bool) (h : RdV w x) (hok : Bals.Says ok (Bals.Right x.b.bs)) : Calls Tryz.prog 35 #[.slice x.ab x.b.bs.length x.cb] w fun e w' => e = .returned (.bool ok) ∧ Below w.heap.size w w' := by
  by_cases z : x.b.bs.length = 0
  · rw [z]
    have e : ok = true := hok.of ⟨by omega, fun i hi => absurd hi (by omega)⟩
    exact (okB0 w x.ab x.cb).mono fun e' w' ⟨h1, h2⟩ => ⟨by rw [h1, e], by rw [h2]; exact Below.refl _ _⟩
  · obtain ⟨g, eg⟩ := h.eb z
    rw [eg]
    exact SOk3.sOk w g _ x.cb x.b.bs ok rfl h.nb (h.rb g eg).1 (h.rb g eg).2 hok
theorem sOksL (w : World) (x : Ix) (ok : Bool) (h : RdV w x) (hok : Says ok (Lots.Right x.b.ls)) : Calls Tryz.prog 36 #[.slice x.al x.b.ls.length x.cl] w fun e w' => e = .returned (.bool ok) ∧ Below w.heap.size w w' := by
  by_cases z : x.b.ls.length = 0
  · rw [z]
    have e : ok = true := hok.of ⟨by omega, fun i hi => absurd hi (by omega), fun a i => by rw [List.eq_nil_of_length_eq_zero z]; simp [Lots.qtyOf, Lots.costOf]⟩
    exact (okL0 w x.al x.cl).mono fun e' w' ⟨h1, h2⟩ => ⟨by rw [h1, e], by rw [h2]; exact Below.refl _ _⟩
  · obtain ⟨g, eg⟩ := h.el z
    rw [eg]
    exact SOk5.sOk w g _ x.cl x.b.ls ok rfl h.nl (h.rl g eg).1 (h.rl g eg).2 hok
theorem sOksT (w : World) (x : Ix) (ok : Bool) (h : RdV w x) (hok : Says ok (TRight x.b.ts)) : Calls Tryz.prog 37 #[.slice x.ats x.b.ts.length x.ct] w fun e w' => e = .returned (.bool ok) ∧ Below w.heap.size w w' := by
  by_cases z : x.b.ts.length = 0
  · rw [z]
    have e : ok = true := hok.of ⟨by omega, fun i hi => absurd hi (by omega)⟩
    exact (okT0 w x.ats x.ct).mono fun e' w' ⟨h1, h2⟩ => ⟨by rw [h1, e], by rw [h2]; exact Below.refl _ _⟩
  · obtain ⟨g, eg⟩ := h.et z
    rw [eg]
    exact ITrade.sOk w g _ x.ct x.b.ts ok rfl h.nt (h.rt g eg).1 (h.rt g eg).2 hok
theorem sOfV (w : World) (x : Ix) (p q : Int) (h : RdV w x) : Calls Tryz.prog 61 #[.slice x.ab x.b.bs.length x.cb, .int .i64 p, .int .i64 q] w fun e w' => e = .returned (.int .i64 (val x.b.bs p q)) ∧ w' = w := by
  by_cases z : x.b.bs.length = 0
  · rw [z, List.eq_nil_of_length_eq_zero z]
    exact of0 w x.ab x.cb p q
  · obtain ⟨g, eg⟩ := h.eb z
    rw [eg]
    exact Look.sOf w g _ x.cb x.b.bs p q rfl h.nb (h.rb g eg).2
theorem sSplitV (w : World) (x : Ix) (p q : Int) (h : RdV w x) (h20 : x.b.ls.length ≤ 100000) : Calls Tryz.prog 59 #[.slice x.al x.b.ls.length x.cl, .int .i64 p, .int .i64 q] w fun e w' => ∃ g1 c1 g2 n2 c2, e = .returned (.tuple #[.slice (some ⟨g1, 0, none⟩) (ownL x.b.ls p q).length c1, .slice (some ⟨g2, 0, none⟩) n2 c2]) ∧ Tup5.Own5 48 w' w.heap.size g1 (ownL x.b.ls p q).length c1 (ownL x.b.ls p q) ∧ Below w.heap.size w w' := by
  by_cases z : x.b.ls.length = 0
  · rw [z, List.eq_nil_of_length_eq_zero z]
    exact (split0 w x.al x.cl p q).mono fun e w' ⟨g1, c1, g2, c2, h1, h2, h3⟩ => ⟨g1, c1, g2, 0, c2, h1, h2, h3⟩
  · obtain ⟨g, eg⟩ := h.el z
    rw [eg]
    exact (SSplit.sSplit w g _ x.cl x.b.ls p q rfl h20 (h.rl g eg).1 (h.rl g eg).2).mono fun e w' ⟨g1, c1, g2, c2, h1, h2, _, _, h3⟩ => ⟨g1, c1, g2, _, c2, h1, h2, h3⟩
end Go.Proofs.YtefcigaalgfmiaaGreatDoor.BMemV13
namespace Go.Proofs.YtefcigaalgfmiaaGreatDoor.BkEq
open Go.ChangeShapes Go.WideShapes Go.ChangeAt Go.RowKit BMem Bks ILists BHelp
open IBalsFit (St one_more)
/-- The two boxes of what is compared. -/
structure Two (w W : World) (x y : Bx) : Prop where
  rx : Rd W x
  ry : Rd W y
  cx : Cl W w.heap.size x
  cy : Cl W (w.heap.size + 1) y
  b : Below w.heap.size w W
  s : w.heap.size + 1 < W.heap.size
theorem Two.step {w W W' : World} {x y : Bx} (h : Two w W x y) (k : Below W.heap.size W W') : Two w W' x y :=
  ⟨h.rx.below k, h.ry.below k, h.cx.below k (by have := h.s; omega), h.cy.below k h.s, h.b.trans (k.mono h.b.size), Nat.lt_of_lt_of_le h.s k.size⟩
theorem Two.start {w : World} {x y : Bx} (hx : Rd w x) (hy : Rd w y) (e : TypeId) : Two w ((w.alloc (.cells #[.slice (some ⟨x.ga, 0, none⟩) x.b.ac.length x.ca, .slice (some ⟨x.gi, 0, none⟩) x.b.ic.length x.ci, .slice (some ⟨x.gb, 0, none⟩) x.b.bs.length x.cb, .slice (some ⟨x.gl, 0, none⟩) x.b.ls.length x.cl, .slice (some ⟨x.gt, 0, none⟩) x.b.ts.length x.ct, .int .i64 x.b.lot] e)).alloc (.cells #[.slice (some ⟨y.ga, 0, none⟩) y.b.ac.length y.ca, .slice (some ⟨y.gi, 0, none⟩) y.b.ic.length y.ci, .slice (some ⟨y.gb, 0, none⟩) y.b.bs.length y.cb, .slice (some ⟨y.gl, 0, none⟩) y.b.ls.length y.cl, .slice (some ⟨y.gt, 0, none⟩) y.b.ts.length y.ct, .int .i64 y.b.lot] e)) x y := by
  have c := boxed (w.alloc (.cells #[.slice (some ⟨x.ga, 0, none⟩) x.b.ac.length x.ca, .slice (some ⟨x.gi, 0, none⟩) x.b.ic.length x.ci, .slice (some ⟨x.gb, 0, none⟩) x.b.bs.length x.cb, .slice (some ⟨x.gl, 0, none⟩) x.b.ls.length x.cl, .slice (some ⟨x.gt, 0, none⟩) x.b.ts.length x.ct, .int .i64 x.b.lot] e)) y e
  have c' : Cl ((w.alloc (.cells #[.slice (some ⟨x.ga, 0, none⟩) x.b.ac.length x.ca, .slice (some ⟨x.gi, 0, none⟩) x.b.ic.length x.ci, .slice (some ⟨x.gb, 0, none⟩) x.b.bs.length x.cb, .slice (some ⟨x.gl, 0, none⟩) x.b.ls.length x.cl, .slice (some ⟨x.gt, 0, none⟩) x.b.ts.length x.ct, .int .i64 x.b.lot] e)).alloc (.cells #[.slice (some ⟨y.ga, 0, none⟩) y.b.ac.length y.ca, .slice (some ⟨y.gi, 0, none⟩) y.b.ic.length y.ci, .slice (some ⟨y.gb, 0, none⟩) y.b.bs.length y.cb, .slice (some ⟨y.gl, 0, none⟩) y.b.ls.length y.cl, .slice (some ⟨y.gt, 0, none⟩) y.b.ts.length y.ct, .int .i64 y.b.lot] e)) (w.heap.size + 1) y := by simpa using c
  exact ⟨(hx.alloc _).alloc _, (hy.alloc _).alloc _, (boxed w x e).below (one_more _ _) (by simp), c', ((Below.refl w.heap.size w).alloc (Nat.le_refl _) _).alloc (by simp) _, by simp⟩
/-- Books that bear marks. -/
def e1 (b : Bk) : Int := 1 + 2 * (b.ac.length : Int)
def e2 (b : Bk) : Int := e1 b + 2 * (b.ic.length : Int)
def e3 (b : Bk) : Int := e2 b + 3 * (b.bs.length : Int)
def e4 (b : Bk) : Int := e3 b + 5 * (b.ls.length : Int)
def e5 (b : Bk) : Int := e4 b + 8 * (b.ts.length : Int)
theorem e_bd {b : Bk} (h : Small b) : (1 ≤ e1 b ∧ e1 b ≤ 100000000) ∧ (1 ≤ e2 b ∧ e2 b ≤ 100000000) ∧ (1 ≤ e3 b ∧ e3 b ≤ 100000000) ∧ (1 ≤ e4 b ∧ e4 b ≤ 100000000) ∧ (1 ≤ e5 b ∧ e5 b ≤ 100000000) := by
  obtain ⟨h1, h2, h3, h4, h5⟩ := h
  unfold e5 e4 e3 e2 e1
  omega
structure OwM (w : World) (base : Nat) (x : Bx) : Prop where
  oa : Pairs.Own 43 w base x.ga x.b.ac.length x.ca (AccountMark.marks 1 x.b.ac.length)
  oi : Pairs.Own 44 w base x.gi x.b.ic.length x.ci (InstrMark.marks (e1 x.b) x.b.ic.length)
  ob : Triples.Own3 46 w base x.gb x.b.bs.length x.cb (BalHelp.marks (e2 x.b) x.b.bs.length)
  ol : Tup5.Own5 48 w base x.gl x.b.ls.length x.cl (LotHelp.marks (e3 x.b) x.b.ls.length)
  ot : Tup8.Own8 50 w base x.gt x.b.ts.length x.ct (TradeHelp.marks (e4 x.b) x.b.ts.length)
theorem OwM.below {w w' : World} {base : Nat} {x : Bx} (h : OwM w base x) (k : Below w.heap.size w w') : OwM w' base x :=
  ⟨h.oa.below k h.oa.lt.2, h.oi.below k h.oi.lt.2, h.ob.below k h.ob.lt.2, h.ol.below k h.ol.lt.2, h.ot.below k h.ot.lt.2⟩
end Go.Proofs.YtefcigaalgfmiaaGreatDoor.BkEq
namespace Go.Proofs.YtefcigaalgfmiaaGreatDoor.SRead13L
open Go.ChangeShapes Go.WideShapes Go.ChangeAt Go.RowKit
theorem row_step {W W' : World} {base : Nat} {e : TypeId} {m : Nat} {v : Value} {n : Nat} {vs : List Value} (h : W.ownsRow base e m v n vs) (k : Below W.heap.size W W') : W'.ownsRow base e m v n vs :=
  World.ownsRow.kept h (row := none) ⟨k.os, k.tape, k.output, k.size, fun i hi _ => k.block i hi⟩ (by
    cases hb : v.ownBlock with
    | none => exact .inl rfl
    | some g => exact .inr (by simp))
theorem addr_of {W : World} {base : Nat} {e : TypeId} {m n c : Nat} {a : Option Addr} {vs : List Value} (h : W.ownsRow base e m (.slice a n c) n vs) : (n ≠ 0 → ∃ g, a = some ⟨g, 0, none⟩) ∧ ∀ g, a = some ⟨g, 0, none⟩ → g < W.heap.size := by
  refine ⟨fun hn => ?_, fun g e => (World.ownsRow.lt h g (by rw [e]; rfl)).2⟩
  rcases h.2 with ⟨h1, _⟩ | ⟨g, c', cur, h1, _⟩
  · have : n = 0 := by simp at h1; omega
    exact absurd this hn
  · have : a = some ⟨g, 0, none⟩ ∧ c = c' := by simpa using h1
    exact ⟨g, this.1⟩
end Go.Proofs.YtefcigaalgfmiaaGreatDoor.SRead13L
namespace Go.Proofs.YtefcigaalgfmiaaGreatDoor.VB13
open Go.ChangeShapes Go.WideShapes Go.ChangeAt Go.RowKit BMem Bks BHelp BkEq BMemV13
open SRead13L (row_step)
open IBalsFit (one_more)
/-- A list of one kind is not touched where one of another kind is written. -/
theorem other {W W' : World} {base base' : Nat} {e e' : TypeId} {m m' : Nat} {v v' : Value} {n n' : Nat} {vs vs' : List Value} (h : W.ownsRow base e m v n vs) (k : W.ownsRow base' e' m' v' n' vs') (ne : e ≠ e') (g : W.grownBy W' v'.ownBlock) : W'.ownsRow base e m v n vs :=
  World.ownsRow.kept h g (by
    cases hb : v.ownBlock with
    | none => exact .inl rfl
    | some b =>
      refine .inr (fun eq => ?_)
      rcases h.2 with ⟨h1, _⟩ | ⟨b1, c1, cur1, h1, _, h2, _⟩
      · rw [h1] at hb; simp [Value.ownBlock] at hb
      · rcases k.2 with ⟨k1, _⟩ | ⟨b2, c2, cur2, k1, _, k2, _⟩
        · rw [k1] at eq; simp [Value.ownBlock] at eq
        · rw [h1] at hb
          rw [k1] at eq
          have e1 : b1 = b := by simpa [Value.ownBlock] using hb
          have e2 : b = b2 := by simpa [Value.ownBlock] using eq
          subst e1 e2
          rw [h2] at k2
          injection k2 with k2
          injection k2 with _ k2
          exact ne k2)
/-- Books of the call's own, from block number base on; lists that are empty may be nil. -/
structure OwV (w : World) (base : Nat) (x : Ix) : Prop where
  oa : w.ownsRow base 43 2 (.slice x.aa x.b.ac.length x.ca) x.b.ac.length (Pairs.flat x.b.ac)
  oi : w.ownsRow base 44 2 (.slice x.ai x.b.ic.length x.ci) x.b.ic.length (Pairs.flat x.b.ic)
  ob : w.ownsRow base 46 3 (.slice x.ab x.b.bs.length x.cb) x.b.bs.length (Triples.flat3 x.b.bs)
  ol : w.ownsRow base 48 5 (.slice x.al x.b.ls.length x.cl) x.b.ls.length (Tup5.flat5 x.b.ls)
  ot : w.ownsRow base 50 8 (.slice x.ats x.b.ts.length x.ct) x.b.ts.length (Tup8.flat8 x.b.ts)
/-- They bear marks. -/
structure OwMV (w : World) (base : Nat) (x : Ix) : Prop where
  oa : w.ownsRow base 43 2 (.slice x.aa x.b.ac.length x.ca) x.b.ac.length (Pairs.flat (AccountMark.marks 1 x.b.ac.length))
  oi : w.ownsRow base 44 2 (.slice x.ai x.b.ic.length x.ci) x.b.ic.length (Pairs.flat (InstrMark.marks (e1 x.b) x.b.ic.length))
  ob : w.ownsRow base 46 3 (.slice x.ab x.b.bs.length x.cb) x.b.bs.length (Triples.flat3 (BalHelp.marks (e2 x.b) x.b.bs.length))
  ol : w.ownsRow base 48 5 (.slice x.al x.b.ls.length x.cl) x.b.ls.length (Tup5.flat5 (LotHelp.marks (e3 x.b) x.b.ls.length))
  ot : w.ownsRow base 50 8 (.slice x.ats x.b.ts.length x.ct) x.b.ts.length (Tup8.flat8 (TradeHelp.marks (e4 x.b) x.b.ts.length))
/-- Which blocks marks on such books may turn. -/
structure TurnV (x : Ix) (w w' : World) : Prop where
  os : w'.os = w.os
  tape : w'.tape = w.tape
  output : w'.output = w.output
  size : w.heap.size ≤ w'.heap.size
  block : ∀ k, k < w.heap.size → some k ≠ (.slice x.aa x.b.ac.length x.ca : Value).ownBlock → some k ≠ (.slice x.ai x.b.ic.length x.ci : Value).ownBlock → some k ≠ (.slice x.ab x.b.bs.length x.cb : Value).ownBlock → some k ≠ (.slice x.al x.b.ls.length x.cl : Value).ownBlock → some k ≠ (.slice x.ats x.b.ts.length x.ct : Value).ownBlock → w'.heap[k]? = w.heap[k]?
theorem TurnV.grown {x : Ix} {w u v : World} {row : Option Nat} (h : TurnV x w u) (k : u.grownBy v row) (hg : row = (.slice x.aa x.b.ac.length x.ca : Value).ownBlock ∨ row = (.slice x.ai x.b.ic.length x.ci : Value).ownBlock ∨ row = (.slice x.ab x.b.bs.length x.cb : Value).ownBlock ∨ row = (.slice x.al x.b.ls.length x.cl : Value).ownBlock ∨ row = (.slice x.ats x.b.ts.length x.ct : Value).ownBlock) : TurnV x w v :=
  ⟨k.os.trans h.os, k.tape.trans h.tape, k.output.trans h.output, Nat.le_trans h.size k.size, fun j hj a b c d e => (k.block j (Nat.lt_of_lt_of_le hj h.size) (fun q => by
    rcases hg with r | r | r | r | r
    · exact a (q.trans r)
    · exact b (q.trans r)
    · exact c (q.trans r)
    · exact d (q.trans r)
    · exact e (q.trans r))).trans (h.block j hj a b c d e)⟩
theorem TurnV.of {x : Ix} {w w' : World} (h : Below w.heap.size w w') : TurnV x w w' := ⟨h.os, h.tape, h.output, h.size, fun j hj _ _ _ _ _ => h.block j hj⟩
theorem TurnV.below {x : Ix} {w w' : World} {base : Nat} (h : TurnV x w w') (o : OwV w base x) (hb : base ≤ w.heap.size) : Below base w w' :=
  ⟨h.os, h.tape, h.output, h.size, fun j hj => h.block j (by omega) (fun e => by have := (World.ownsRow.lt o.oa j e.symm).1; omega) (fun e => by have := (World.ownsRow.lt o.oi j e.symm).1; omega) (fun e => by have := (World.ownsRow.lt o.ob j e.symm).1; omega) (fun e => by have := (World.ownsRow.lt o.ol j e.symm).1; omega) (fun e => by have := (World.ownsRow.lt o.ot j e.symm).1; omega)⟩
theorem OwV.step {w w' : World} {base : Nat} {x : Ix} (h : OwV w base x) (k : Below w.heap.size w w') : OwV w' base x := ⟨row_step h.oa k, row_step h.oi k, row_step h.ob k, row_step h.ol k, row_step h.ot k⟩
theorem OwMV.step {w w' : World} {base : Nat} {x : Ix} (h : OwMV w base x) (k : Below w.heap.size w w') : OwMV w' base x := ⟨row_step h.oa k, row_step h.oi k, row_step h.ob k, row_step h.ol k, row_step h.ot k⟩
theorem OwV.rd {w : World} {base : Nat} {x : Ix} (h : OwV w base x) (hn : Small x.b) : RdV w x := by
  obtain ⟨n1, n2, n3, n4, n5⟩ := hn
  refine ⟨(SRead13L.addr_of h.oa).1, fun g e => ⟨(SRead13L.addr_of h.oa).2 g e, ?_⟩, n1, (SRead13L.addr_of h.oi).1, fun g e => ⟨(SRead13L.addr_of h.oi).2 g e, ?_⟩, n2, (SRead13L.addr_of h.ob).1, fun g e => ⟨(SRead13L.addr_of h.ob).2 g e, ?_⟩, n3, (SRead13L.addr_of h.ol).1, fun g e => ⟨(SRead13L.addr_of h.ol).2 g e, ?_⟩, n4, (SRead13L.addr_of h.ot).1, fun g e => ⟨(SRead13L.addr_of h.ot).2 g e, ?_⟩, n5⟩
  · have o := h.oa
    rw [e] at o
    exact Pairs.Own.at o
  · have o := h.oi
    rw [e] at o
    exact Pairs.Own.at o
  · have o := h.ob
    rw [e] at o
    exact Triples.Own3.at o
  · have o := h.ol
    rw [e] at o
    exact Tup5.Own5.at o
  · have o := h.ot
    rw [e] at o
    exact Tup8.Own8.at o
set_option maxRecDepth 100000 in
theorem eqNAccount (w : World) (a1 a2 : Option Addr) (c1 c2 : Nat) : Calls Tryz.prog 17 #[.slice a1 0 c1, .slice a2 0 c2] w fun e w' => e = .returned (.bool true) ∧ w' = w := by
  go_enter Tryz.func17, Tryz.ntmps17
  go_wp2
  go_loopw [5] (fun j wr => j = .int .i64 0 ∧ wr = w) (fun _ _ => 0)
  case atStart => exact ⟨rfl, rfl⟩
  case round =>
    obtain ⟨rfl, rfl⟩ := hrel
    go_wp2
    go_ret
    exact ⟨rfl, rfl⟩
set_option maxRecDepth 100000 in
theorem markNAccount (w : World) (a : Option Addr) (c : Nat) (s : Int) : Calls Tryz.prog 22 #[.slice a 0 c, .int .i64 s] w fun e w' => e = .returned (.int .i64 s) ∧ w' = w := by
  go_enter Tryz.func22, Tryz.ntmps22
  go_wp2
  go_loopw [1, 5] (fun m j wr => m = .int .i64 s ∧ j = .int .i64 0 ∧ wr = w) (fun _ _ _ => 0)
  case atStart => exact ⟨rfl, rfl, rfl⟩
  case round =>
    obtain ⟨rfl, rfl, rfl⟩ := hrel
    go_wp2
    go_ret
    exact ⟨rfl, rfl⟩
set_option maxRecDepth 100000 in
theorem heldNAccount (w : World) (a : Option Addr) (c : Nat) (s : Int) : Calls Tryz.prog 27 #[.slice a 0 c, .int .i64 s] w fun e w' => e = .returned (.int .i64 s) ∧ w' = w := by
  go_enter Tryz.func27, Tryz.ntmps27
  go_wp2
  go_loopw [1, 5] (fun m j wr => m = .int .i64 s ∧ j = .int .i64 0 ∧ wr = w) (fun _ _ _ => 0)
  case atStart => exact ⟨rfl, rfl, rfl⟩
  case round =>
    obtain ⟨rfl, rfl, rfl⟩ := hrel
    go_wp2
    go_ret
    exact ⟨rfl, rfl⟩
theorem eqAccount (w : World) (x y : Ix) (hb : y.b = x.b) (hx : RdV w x) (hy : RdV w y) : Calls Tryz.prog 17 #[.slice x.aa x.b.ac.length x.ca, .slice y.aa x.b.ac.length y.ca] w fun e w' => e = .returned (.bool true) ∧ Below w.heap.size w w' := by
  by_cases z : x.b.ac.length = 0
  · rw [z]
    exact (eqNAccount w _ _ _ _).mono fun e w' ⟨h1, h2⟩ => ⟨h1, by rw [h2]; exact Below.refl _ _⟩
  · obtain ⟨g1, e1⟩ := hx.ea z
    obtain ⟨g2, e2⟩ := hy.ea (by rw [hb]; exact z)
    have a1 := hx.ra g1 e1
    have a2 := hy.ra g2 e2
    rw [hb] at a2
    rw [e1, e2]
    exact AccountHelp.eqS w g1 g2 _ _ _ x.b.ac rfl hx.na a1.1 a2.1 a1.2 a2.2
theorem markAccount (w : World) (base n c : Nat) (a : Option Addr) (s : Int) (ps : List (Int × Int)) (h20 : n ≤ 1048576) (s0 : 0 ≤ s) (s1 : s ≤ 100000000) (ho : w.ownsRow base 43 2 (.slice a n c) n (Pairs.flat ps)) :
    Calls Tryz.prog 22 #[.slice a n c, .int .i64 s] w fun e w' => e = .returned (.int .i64 (s + 2 * (n : Int))) ∧ w'.ownsRow base 43 2 (.slice a n c) n (Pairs.flat (AccountMark.marks s n)) ∧ w.grownBy w' (Value.slice a n c).ownBlock := by
  have ho' := ho
  rcases ho.2 with ⟨h1, h2⟩ | ⟨g, c', cur, h1, _⟩
  · obtain ⟨rfl, _, rfl⟩ : a = none ∧ n = 0 ∧ c = 0 := by simpa using h1
    subst h2
    exact (markNAccount w _ _ s).mono fun e w' ⟨q1, q2⟩ => ⟨by rw [q1]; simp, by rw [q2]; exact World.ownsRow_nil w base _ _, by rw [q2]; exact World.grownBy.refl _ _⟩
  · obtain ⟨rfl, rfl⟩ : a = some ⟨g, 0, none⟩ ∧ c = c' := by simpa using h1
    exact AccountMark.markS w base g n c s ps h20 s0 s1 ho'
theorem heldAccount (w : World) (base n c : Nat) (a : Option Addr) (s : Int) (h20 : n ≤ 1048576) (s0 : 0 ≤ s) (s1 : s ≤ 100000000) (ho : w.ownsRow base 43 2 (.slice a n c) n (Pairs.flat (AccountMark.marks s n))) :
    Calls Tryz.prog 27 #[.slice a n c, .int .i64 s] w fun e w' => e = .returned (.int .i64 (s + 2 * (n : Int))) ∧ w' = w := by
  have ho' := ho
  rcases ho.2 with ⟨h1, h2⟩ | ⟨g, c', cur, h1, _⟩
  · obtain ⟨rfl, _, rfl⟩ : a = none ∧ n = 0 ∧ c = 0 := by simpa using h1
    subst h2
    exact (heldNAccount w _ _ s).mono fun e w' ⟨q1, q2⟩ => ⟨by rw [q1]; simp, q2⟩
  · obtain ⟨rfl, rfl⟩ : a = some ⟨g, 0, none⟩ ∧ c = c' := by simpa using h1
    exact AccountMark.heldS w g n c s h20 s0 s1 (Pairs.Own.at ho')
set_option maxRecDepth 100000 in
theorem eqNInstr (w : World) (a1 a2 : Option Addr) (c1 c2 : Nat) : Calls Tryz.prog 18 #[.slice a1 0 c1, .slice a2 0 c2] w fun e w' => e = .returned (.bool true) ∧ w' = w := by
  go_enter Tryz.func18, Tryz.ntmps18
  go_wp2
  go_loopw [5] (fun j wr => j = .int .i64 0 ∧ wr = w) (fun _ _ => 0)
  case atStart => exact ⟨rfl, rfl⟩
  case round =>
    obtain ⟨rfl, rfl⟩ := hrel
    go_wp2
    go_ret
    exact ⟨rfl, rfl⟩
set_option maxRecDepth 100000 in
theorem markNInstr (w : World) (a : Option Addr) (c : Nat) (s : Int) : Calls Tryz.prog 23 #[.slice a 0 c, .int .i64 s] w fun e w' => e = .returned (.int .i64 s) ∧ w' = w := by
  go_enter Tryz.func23, Tryz.ntmps23
  go_wp2
  go_loopw [1, 5] (fun m j wr => m = .int .i64 s ∧ j = .int .i64 0 ∧ wr = w) (fun _ _ _ => 0)
  case atStart => exact ⟨rfl, rfl, rfl⟩
  case round =>
    obtain ⟨rfl, rfl, rfl⟩ := hrel
    go_wp2
    go_ret
    exact ⟨rfl, rfl⟩
set_option maxRecDepth 100000 in
theorem heldNInstr (w : World) (a : Option Addr) (c : Nat) (s : Int) : Calls Tryz.prog 28 #[.slice a 0 c, .int .i64 s] w fun e w' => e = .returned (.int .i64 s) ∧ w' = w := by
  go_enter Tryz.func28, Tryz.ntmps28
  go_wp2
  go_loopw [1, 5] (fun m j wr => m = .int .i64 s ∧ j = .int .i64 0 ∧ wr = w) (fun _ _ _ => 0)
  case atStart => exact ⟨rfl, rfl, rfl⟩
  case round =>
    obtain ⟨rfl, rfl, rfl⟩ := hrel
    go_wp2
    go_ret
    exact ⟨rfl, rfl⟩
theorem eqInstr (w : World) (x y : Ix) (hb : y.b = x.b) (hx : RdV w x) (hy : RdV w y) : Calls Tryz.prog 18 #[.slice x.ai x.b.ic.length x.ci, .slice y.ai x.b.ic.length y.ci] w fun e w' => e = .returned (.bool true) ∧ Below w.heap.size w w' := by
  by_cases z : x.b.ic.length = 0
  · rw [z]
    exact (eqNInstr w _ _ _ _).mono fun e w' ⟨h1, h2⟩ => ⟨h1, by rw [h2]; exact Below.refl _ _⟩
  · obtain ⟨g1, e1⟩ := hx.ei z
    obtain ⟨g2, e2⟩ := hy.ei (by rw [hb]; exact z)
    have a1 := hx.ri g1 e1
    have a2 := hy.ri g2 e2
    rw [hb] at a2
    rw [e1, e2]
    exact InstrHelp.eqS w g1 g2 _ _ _ x.b.ic rfl hx.ni a1.1 a2.1 a1.2 a2.2
theorem markInstr (w : World) (base n c : Nat) (a : Option Addr) (s : Int) (ps : List (Int × Int)) (h20 : n ≤ 1048576) (s0 : 0 ≤ s) (s1 : s ≤ 100000000) (ho : w.ownsRow base 44 2 (.slice a n c) n (Pairs.flat ps)) :
    Calls Tryz.prog 23 #[.slice a n c, .int .i64 s] w fun e w' => e = .returned (.int .i64 (s + 2 * (n : Int))) ∧ w'.ownsRow base 44 2 (.slice a n c) n (Pairs.flat (InstrMark.marks s n)) ∧ w.grownBy w' (Value.slice a n c).ownBlock := by
  have ho' := ho
  rcases ho.2 with ⟨h1, h2⟩ | ⟨g, c', cur, h1, _⟩
  · obtain ⟨rfl, _, rfl⟩ : a = none ∧ n = 0 ∧ c = 0 := by simpa using h1
    subst h2
    exact (markNInstr w _ _ s).mono fun e w' ⟨q1, q2⟩ => ⟨by rw [q1]; simp, by rw [q2]; exact World.ownsRow_nil w base _ _, by rw [q2]; exact World.grownBy.refl _ _⟩
  · obtain ⟨rfl, rfl⟩ : a = some ⟨g, 0, none⟩ ∧ c = c' := by simpa using h1
    exact InstrMark.markS w base g n c s ps h20 s0 s1 ho'
theorem heldInstr (w : World) (base n c : Nat) (a : Option Addr) (s : Int) (h20 : n ≤ 1048576) (s0 : 0 ≤ s) (s1 : s ≤ 100000000) (ho : w.ownsRow base 44 2 (.slice a n c) n (Pairs.flat (InstrMark.marks s n))) :
    Calls Tryz.prog 28 #[.slice a n c, .int .i64 s] w fun e w' => e = .returned (.int .i64 (s + 2 * (n : Int))) ∧ w' = w := by
  have ho' := ho
  rcases ho.2 with ⟨h1, h2⟩ | ⟨g, c', cur, h1, _⟩
  · obtain ⟨rfl, _, rfl⟩ : a = none ∧ n = 0 ∧ c = 0 := by simpa using h1
    subst h2
    exact (heldNInstr w _ _ s).mono fun e w' ⟨q1, q2⟩ => ⟨by rw [q1]; simp, q2⟩
  · obtain ⟨rfl, rfl⟩ : a = some ⟨g, 0, none⟩ ∧ c = c' := by simpa using h1
    exact InstrMark.heldS w g n c s h20 s0 s1 (Pairs.Own.at ho')
set_option maxRecDepth 100000 in
theorem eqNBal (w : World) (a1 a2 : Option Addr) (c1 c2 : Nat) : Calls Tryz.prog 19 #[.slice a1 0 c1, .slice a2 0 c2] w fun e w' => e = .returned (.bool true) ∧ w' = w := by
  go_enter Tryz.func19, Tryz.ntmps19
  go_wp2
  go_loopw [5] (fun j wr => j = .int .i64 0 ∧ wr = w) (fun _ _ => 0)
  case atStart => exact ⟨rfl, rfl⟩
  case round =>
    obtain ⟨rfl, rfl⟩ := hrel
    go_wp2
    go_ret
    exact ⟨rfl, rfl⟩
set_option maxRecDepth 100000 in
theorem markNBal (w : World) (a : Option Addr) (c : Nat) (s : Int) : Calls Tryz.prog 24 #[.slice a 0 c, .int .i64 s] w fun e w' => e = .returned (.int .i64 s) ∧ w' = w := by
  go_enter Tryz.func24, Tryz.ntmps24
  go_wp2
  go_loopw [1, 5] (fun m j wr => m = .int .i64 s ∧ j = .int .i64 0 ∧ wr = w) (fun _ _ _ => 0)
  case atStart => exact ⟨rfl, rfl, rfl⟩
  case round =>
    obtain ⟨rfl, rfl, rfl⟩ := hrel
    go_wp2
    go_ret
    exact ⟨rfl, rfl⟩
set_option maxRecDepth 100000 in
theorem heldNBal (w : World) (a : Option Addr) (c : Nat) (s : Int) : Calls Tryz.prog 29 #[.slice a 0 c, .int .i64 s] w fun e w' => e = .returned (.int .i64 s) ∧ w' = w := by
  go_enter Tryz.func29, Tryz.ntmps29
  go_wp2
  go_loopw [1, 5] (fun m j wr => m = .int .i64 s ∧ j = .int .i64 0 ∧ wr = w) (fun _ _ _ => 0)
  case atStart => exact ⟨rfl, rfl, rfl⟩
  case round =>
    obtain ⟨rfl, rfl, rfl⟩ := hrel
    go_wp2
    go_ret
    exact ⟨rfl, rfl⟩
theorem eqBal (w : World) (x y : Ix) (hb : y.b = x.b) (hx : RdV w x) (hy : RdV w y) : Calls Tryz.prog 19 #[.slice x.ab x.b.bs.length x.cb, .slice y.ab x.b.bs.length y.cb] w fun e w' => e = .returned (.bool true) ∧ Below w.heap.size w w' := by
  by_cases z : x.b.bs.length = 0
  · rw [z]
    exact (eqNBal w _ _ _ _).mono fun e w' ⟨h1, h2⟩ => ⟨h1, by rw [h2]; exact Below.refl _ _⟩
  · obtain ⟨g1, e1⟩ := hx.eb z
    obtain ⟨g2, e2⟩ := hy.eb (by rw [hb]; exact z)
    have a1 := hx.rb g1 e1
    have a2 := hy.rb g2 e2
    rw [hb] at a2
    rw [e1, e2]
    exact BalHelp.eqS w g1 g2 _ _ _ x.b.bs rfl hx.nb a1.1 a2.1 a1.2 a2.2
theorem markBal (w : World) (base n c : Nat) (a : Option Addr) (s : Int) (ps : List Bals.T3) (h20 : n ≤ 1048576) (s0 : 0 ≤ s) (s1 : s ≤ 100000000) (ho : w.ownsRow base 46 3 (.slice a n c) n (Triples.flat3 ps)) :
    Calls Tryz.prog 24 #[.slice a n c, .int .i64 s] w fun e w' => e = .returned (.int .i64 (s + 3 * (n : Int))) ∧ w'.ownsRow base 46 3 (.slice a n c) n (Triples.flat3 (BalHelp.marks s n)) ∧ w.grownBy w' (Value.slice a n c).ownBlock := by
  have ho' := ho
  rcases ho.2 with ⟨h1, h2⟩ | ⟨g, c', cur, h1, _⟩
  · obtain ⟨rfl, _, rfl⟩ : a = none ∧ n = 0 ∧ c = 0 := by simpa using h1
    subst h2
    exact (markNBal w _ _ s).mono fun e w' ⟨q1, q2⟩ => ⟨by rw [q1]; simp, by rw [q2]; exact World.ownsRow_nil w base _ _, by rw [q2]; exact World.grownBy.refl _ _⟩
  · obtain ⟨rfl, rfl⟩ : a = some ⟨g, 0, none⟩ ∧ c = c' := by simpa using h1
    exact BalHelp.markS w base g n c s ps h20 s0 s1 ho'
theorem heldBal (w : World) (base n c : Nat) (a : Option Addr) (s : Int) (h20 : n ≤ 1048576) (s0 : 0 ≤ s) (s1 : s ≤ 100000000) (ho : w.ownsRow base 46 3 (.slice a n c) n (Triples.flat3 (BalHelp.marks s n))) :
    Calls Tryz.prog 29 #[.slice a n c, .int .i64 s] w fun e w' => e = .returned (.int .i64 (s + 3 * (n : Int))) ∧ w' = w := by
  have ho' := ho
  rcases ho.2 with ⟨h1, h2⟩ | ⟨g, c', cur, h1, _⟩
  · obtain ⟨rfl, _, rfl⟩ : a = none ∧ n = 0 ∧ c = 0 := by simpa using h1
    subst h2
    exact (heldNBal w _ _ s).mono fun e w' ⟨q1, q2⟩ => ⟨by rw [q1]; simp, q2⟩
  · obtain ⟨rfl, rfl⟩ : a = some ⟨g, 0, none⟩ ∧ c = c' := by simpa using h1
    exact BalHeld.heldS w g n c s h20 s0 s1 (Triples.Own3.at ho')
set_option maxRecDepth 100000 in
theorem eqNLot (w : World) (a1 a2 : Option Addr) (c1 c2 : Nat) : Calls Tryz.prog 20 #[.slice a1 0 c1, .slice a2 0 c2] w fun e w' => e = .returned (.bool true) ∧ w' = w := by
  go_enter Tryz.func20, Tryz.ntmps20
  go_wp2
  go_loopw [5] (fun j wr => j = .int .i64 0 ∧ wr = w) (fun _ _ => 0)
  case atStart => exact ⟨rfl, rfl⟩
  case round =>
    obtain ⟨rfl, rfl⟩ := hrel
    go_wp2
    go_ret
    exact ⟨rfl, rfl⟩
set_option maxRecDepth 100000 in
theorem markNLot (w : World) (a : Option Addr) (c : Nat) (s : Int) : Calls Tryz.prog 25 #[.slice a 0 c, .int .i64 s] w fun e w' => e = .returned (.int .i64 s) ∧ w' = w := by
  go_enter Tryz.func25, Tryz.ntmps25
  go_wp2
  go_loopw [1, 5] (fun m j wr => m = .int .i64 s ∧ j = .int .i64 0 ∧ wr = w) (fun _ _ _ => 0)
  case atStart => exact ⟨rfl, rfl, rfl⟩
  case round =>
    obtain ⟨rfl, rfl, rfl⟩ := hrel
    go_wp2
    go_ret
    exact ⟨rfl, rfl⟩
set_option maxRecDepth 100000 in
theorem heldNLot (w : World) (a : Option Addr) (c : Nat) (s : Int) : Calls Tryz.prog 30 #[.slice a 0 c, .int .i64 s] w fun e w' => e = .returned (.int .i64 s) ∧ w' = w := by
  go_enter Tryz.func30, Tryz.ntmps30
  go_wp2
  go_loopw [1, 5] (fun m j wr => m = .int .i64 s ∧ j = .int .i64 0 ∧ wr = w) (fun _ _ _ => 0)
  case atStart => exact ⟨rfl, rfl, rfl⟩
  case round =>
    obtain ⟨rfl, rfl, rfl⟩ := hrel
    go_wp2
    go_ret
    exact ⟨rfl, rfl⟩
theorem eqLot (w : World) (x y : Ix) (hb : y.b = x.b) (hx : RdV w x) (hy : RdV w y) : Calls Tryz.prog 20 #[.slice x.al x.b.ls.length x.cl, .slice y.al x.b.ls.length y.cl] w fun e w' => e = .returned (.bool true) ∧ Below w.heap.size w w' := by
  by_cases z : x.b.ls.length = 0
  · rw [z]
    exact (eqNLot w _ _ _ _).mono fun e w' ⟨h1, h2⟩ => ⟨h1, by rw [h2]; exact Below.refl _ _⟩
  · obtain ⟨g1, e1⟩ := hx.el z
    obtain ⟨g2, e2⟩ := hy.el (by rw [hb]; exact z)
    have a1 := hx.rl g1 e1
    have a2 := hy.rl g2 e2
    rw [hb] at a2
    rw [e1, e2]
    exact LotHelp.eqS w g1 g2 _ _ _ x.b.ls rfl hx.nl a1.1 a2.1 a1.2 a2.2
theorem markLot (w : World) (base n c : Nat) (a : Option Addr) (s : Int) (ps : List Tup5.T5) (h20 : n ≤ 1048576) (s0 : 0 ≤ s) (s1 : s ≤ 100000000) (ho : w.ownsRow base 48 5 (.slice a n c) n (Tup5.flat5 ps)) :
    Calls Tryz.prog 25 #[.slice a n c, .int .i64 s] w fun e w' => e = .returned (.int .i64 (s + 5 * (n : Int))) ∧ w'.ownsRow base 48 5 (.slice a n c) n (Tup5.flat5 (LotHelp.marks s n)) ∧ w.grownBy w' (Value.slice a n c).ownBlock := by
  have ho' := ho
  rcases ho.2 with ⟨h1, h2⟩ | ⟨g, c', cur, h1, _⟩
  · obtain ⟨rfl, _, rfl⟩ : a = none ∧ n = 0 ∧ c = 0 := by simpa using h1
    subst h2
    exact (markNLot w _ _ s).mono fun e w' ⟨q1, q2⟩ => ⟨by rw [q1]; simp, by rw [q2]; exact World.ownsRow_nil w base _ _, by rw [q2]; exact World.grownBy.refl _ _⟩
  · obtain ⟨rfl, rfl⟩ : a = some ⟨g, 0, none⟩ ∧ c = c' := by simpa using h1
    exact LotHelp.markS w base g n c s ps h20 s0 s1 ho'
theorem heldLot (w : World) (base n c : Nat) (a : Option Addr) (s : Int) (h20 : n ≤ 1048576) (s0 : 0 ≤ s) (s1 : s ≤ 100000000) (ho : w.ownsRow base 48 5 (.slice a n c) n (Tup5.flat5 (LotHelp.marks s n))) :
    Calls Tryz.prog 30 #[.slice a n c, .int .i64 s] w fun e w' => e = .returned (.int .i64 (s + 5 * (n : Int))) ∧ w' = w := by
  have ho' := ho
  rcases ho.2 with ⟨h1, h2⟩ | ⟨g, c', cur, h1, _⟩
  · obtain ⟨rfl, _, rfl⟩ : a = none ∧ n = 0 ∧ c = 0 := by simpa using h1
    subst h2
    exact (heldNLot w _ _ s).mono fun e w' ⟨q1, q2⟩ => ⟨by rw [q1]; simp, q2⟩
  · obtain ⟨rfl, rfl⟩ : a = some ⟨g, 0, none⟩ ∧ c = c' := by simpa using h1
    exact LotHeld.heldS w g n c s h20 s0 s1 (Tup5.Own5.at ho')
set_option maxRecDepth 100000 in
theorem eqNTrade (w : World) (a1 a2 : Option Addr) (c1 c2 : Nat) : Calls Tryz.prog 21 #[.slice a1 0 c1, .slice a2 0 c2] w fun e w' => e = .returned (.bool true) ∧ w' = w := by
  go_enter Tryz.func21, Tryz.ntmps21
  go_wp2
  go_loopw [5] (fun j wr => j = .int .i64 0 ∧ wr = w) (fun _ _ => 0)
  case atStart => exact ⟨rfl, rfl⟩
  case round =>
    obtain ⟨rfl, rfl⟩ := hrel
    go_wp2
    go_ret
    exact ⟨rfl, rfl⟩
set_option maxRecDepth 100000 in
theorem markNTrade (w : World) (a : Option Addr) (c : Nat) (s : Int) : Calls Tryz.prog 26 #[.slice a 0 c, .int .i64 s] w fun e w' => e = .returned (.int .i64 s) ∧ w' = w := by
  go_enter Tryz.func26, Tryz.ntmps26
  go_wp2
  go_loopw [1, 5] (fun m j wr => m = .int .i64 s ∧ j = .int .i64 0 ∧ wr = w) (fun _ _ _ => 0)
  case atStart => exact ⟨rfl, rfl, rfl⟩
  case round =>
    obtain ⟨rfl, rfl, rfl⟩ := hrel
    go_wp2
    go_ret
    exact ⟨rfl, rfl⟩
set_option maxRecDepth 100000 in
theorem heldNTrade (w : World) (a : Option Addr) (c : Nat) (s : Int) : Calls Tryz.prog 31 #[.slice a 0 c, .int .i64 s] w fun e w' => e = .returned (.int .i64 s) ∧ w' = w := by
  go_enter Tryz.func31, Tryz.ntmps31
  go_wp2
  go_loopw [1, 5] (fun m j wr => m = .int .i64 s ∧ j = .int .i64 0 ∧ wr = w) (fun _ _ _ => 0)
  case atStart => exact ⟨rfl, rfl, rfl⟩
  case round =>
    obtain ⟨rfl, rfl, rfl⟩ := hrel
    go_wp2
    go_ret
    exact ⟨rfl, rfl⟩
theorem eqTrade (w : World) (x y : Ix) (hb : y.b = x.b) (hx : RdV w x) (hy : RdV w y) : Calls Tryz.prog 21 #[.slice x.ats x.b.ts.length x.ct, .slice y.ats x.b.ts.length y.ct] w fun e w' => e = .returned (.bool true) ∧ Below w.heap.size w w' := by
  by_cases z : x.b.ts.length = 0
  · rw [z]
    exact (eqNTrade w _ _ _ _).mono fun e w' ⟨h1, h2⟩ => ⟨h1, by rw [h2]; exact Below.refl _ _⟩
  · obtain ⟨g1, e1⟩ := hx.et z
    obtain ⟨g2, e2⟩ := hy.et (by rw [hb]; exact z)
    have a1 := hx.rt g1 e1
    have a2 := hy.rt g2 e2
    rw [hb] at a2
    rw [e1, e2]
    exact TradeHelp.eqS w g1 g2 _ _ _ x.b.ts rfl hx.nt a1.1 a2.1 a1.2 a2.2
theorem markTrade (w : World) (base n c : Nat) (a : Option Addr) (s : Int) (ps : List Tup8.T8) (h20 : n ≤ 1048576) (s0 : 0 ≤ s) (s1 : s ≤ 100000000) (ho : w.ownsRow base 50 8 (.slice a n c) n (Tup8.flat8 ps)) :
    Calls Tryz.prog 26 #[.slice a n c, .int .i64 s] w fun e w' => e = .returned (.int .i64 (s + 8 * (n : Int))) ∧ w'.ownsRow base 50 8 (.slice a n c) n (Tup8.flat8 (TradeHelp.marks s n)) ∧ w.grownBy w' (Value.slice a n c).ownBlock := by
  have ho' := ho
  rcases ho.2 with ⟨h1, h2⟩ | ⟨g, c', cur, h1, _⟩
  · obtain ⟨rfl, _, rfl⟩ : a = none ∧ n = 0 ∧ c = 0 := by simpa using h1
    subst h2
    exact (markNTrade w _ _ s).mono fun e w' ⟨q1, q2⟩ => ⟨by rw [q1]; simp, by rw [q2]; exact World.ownsRow_nil w base _ _, by rw [q2]; exact World.grownBy.refl _ _⟩
  · obtain ⟨rfl, rfl⟩ : a = some ⟨g, 0, none⟩ ∧ c = c' := by simpa using h1
    exact TradeHelp.markS w base g n c s ps h20 s0 s1 ho'
theorem heldTrade (w : World) (base n c : Nat) (a : Option Addr) (s : Int) (h20 : n ≤ 1048576) (s0 : 0 ≤ s) (s1 : s ≤ 100000000) (ho : w.ownsRow base 50 8 (.slice a n c) n (Tup8.flat8 (TradeHelp.marks s n))) :
    Calls Tryz.prog 31 #[.slice a n c, .int .i64 s] w fun e w' => e = .returned (.int .i64 (s + 8 * (n : Int))) ∧ w' = w := by
  have ho' := ho
  rcases ho.2 with ⟨h1, h2⟩ | ⟨g, c', cur, h1, _⟩
  · obtain ⟨rfl, _, rfl⟩ : a = none ∧ n = 0 ∧ c = 0 := by simpa using h1
    subst h2
    exact (heldNTrade w _ _ s).mono fun e w' ⟨q1, q2⟩ => ⟨by rw [q1]; simp, q2⟩
  · obtain ⟨rfl, rfl⟩ : a = some ⟨g, 0, none⟩ ∧ c = c' := by simpa using h1
    exact TradeHeld.heldS w g n c s h20 s0 s1 (Tup8.Own8.at ho')
/-- The two boxes of what is compared. -/
structure TwoV (w W : World) (x y : Ix) : Prop where
  rx : RdV W x
  ry : RdV W y
  cx : ClV W w.heap.size x
  cy : ClV W (w.heap.size + 1) y
  b : Below w.heap.size w W
  s : w.heap.size + 1 < W.heap.size
theorem TwoV.step {w W W' : World} {x y : Ix} (h : TwoV w W x y) (k : Below W.heap.size W W') : TwoV w W' x y :=
  ⟨h.rx.below k, h.ry.below k, h.cx.below k (by have := h.s; omega), h.cy.below k h.s, h.b.trans (k.mono h.b.size), Nat.lt_of_lt_of_le h.s k.size⟩
theorem boxedV (w : World) (x : Ix) (e : TypeId) : ClV (w.alloc (.cells #[.slice x.aa x.b.ac.length x.ca, .slice x.ai x.b.ic.length x.ci, .slice x.ab x.b.bs.length x.cb, .slice x.al x.b.ls.length x.cl, .slice x.ats x.b.ts.length x.ct, .int .i64 x.b.lot] e)) w.heap.size x := ⟨by simp, by simp, by simp, by simp, by simp, by simp⟩
theorem TwoV.start {w : World} {x y : Ix} (hx : RdV w x) (hy : RdV w y) (e : TypeId) : TwoV w ((w.alloc (.cells #[.slice x.aa x.b.ac.length x.ca, .slice x.ai x.b.ic.length x.ci, .slice x.ab x.b.bs.length x.cb, .slice x.al x.b.ls.length x.cl, .slice x.ats x.b.ts.length x.ct, .int .i64 x.b.lot] e)).alloc (.cells #[.slice y.aa y.b.ac.length y.ca, .slice y.ai y.b.ic.length y.ci, .slice y.ab y.b.bs.length y.cb, .slice y.al y.b.ls.length y.cl, .slice y.ats y.b.ts.length y.ct, .int .i64 y.b.lot] e)) x y := by
  have c := boxedV (w.alloc (.cells #[.slice x.aa x.b.ac.length x.ca, .slice x.ai x.b.ic.length x.ci, .slice x.ab x.b.bs.length x.cb, .slice x.al x.b.ls.length x.cl, .slice x.ats x.b.ts.length x.ct, .int .i64 x.b.lot] e)) y e
  have s : (w.alloc (.cells #[.slice x.aa x.b.ac.length x.ca, .slice x.ai x.b.ic.length x.ci, .slice x.ab x.b.bs.length x.cb, .slice x.al x.b.ls.length x.cl, .slice x.ats x.b.ts.length x.ct, .int .i64 x.b.lot] e)).heap.size = w.heap.size + 1 := by simp
  rw [s] at c
  have b1 := one_more w (.cells #[.slice x.aa x.b.ac.length x.ca, .slice x.ai x.b.ic.length x.ci, .slice x.ab x.b.bs.length x.cb, .slice x.al x.b.ls.length x.cl, .slice x.ats x.b.ts.length x.ct, .int .i64 x.b.lot] e)
  have b2 := one_more (w.alloc (.cells #[.slice x.aa x.b.ac.length x.ca, .slice x.ai x.b.ic.length x.ci, .slice x.ab x.b.bs.length x.cb, .slice x.al x.b.ls.length x.cl, .slice x.ats x.b.ts.length x.ct, .int .i64 x.b.lot] e)) (.cells #[.slice y.aa y.b.ac.length y.ca, .slice y.ai y.b.ic.length y.ci, .slice y.ab y.b.bs.length y.cb, .slice y.al y.b.ls.length y.cl, .slice y.ats y.b.ts.length y.ct, .int .i64 y.b.lot] e)
  exact ⟨(hx.below b1).below b2, (hy.below b1).below b2, (boxedV w x e).below b2 (by simp), c, b1.trans (b2.mono b1.size), by simp⟩
set_option maxRecDepth 100000 in
set_option maxHeartbeats 2000000 in
theorem eqBV (w : World) (x y : Ix) (hb : y.b = x.b) (hx : RdV w x) (hy : RdV w y) :
    Calls Tryz.prog 7 #[.agg #[.slice x.aa x.b.ac.length x.ca, .slice x.ai x.b.ic.length x.ci, .slice x.ab x.b.bs.length x.cb, .slice x.al x.b.ls.length x.cl, .slice x.ats x.b.ts.length x.ct, .int .i64 x.b.lot], .agg #[.slice y.aa y.b.ac.length y.ca, .slice y.ai y.b.ic.length y.ci, .slice y.ab y.b.bs.length y.cb, .slice y.al y.b.ls.length y.cl, .slice y.ats y.b.ts.length y.ct, .int .i64 y.b.lot]] w fun e w' => e = .returned (.bool true) ∧ Below w.heap.size w w' := by
  have T0 := hide (TwoV.start hx hy 29)
  have HB := hide hb
  obtain ⟨aa, ca, ai, ci, ab, cb, al, cl, ats, ct, b⟩ := y
  obtain rfl : b = x.b := hb
  clear hx hy
  go_enter Tryz.func7, Tryz.ntmps7
  go_wp2_with fail
  refine (eqAccount _ x ⟨aa, ca, ai, ci, ab, cb, al, cl, ats, ct, x.b⟩ rfl (unhide T0).rx (unhide T0).ry).mono ?_
  rintro e w1 ⟨rfl, bb⟩
  have T1 := hide ((unhide T0).step bb)
  clear bb
  have p1 := (unhide T1).cx.c1
  have r1 := (unhide T1).cy.c1
  go_wp2_with fail
  refine (eqInstr _ x ⟨aa, ca, ai, ci, ab, cb, al, cl, ats, ct, x.b⟩ rfl (unhide T1).rx (unhide T1).ry).mono ?_
  rintro e w2 ⟨rfl, bb⟩
  have T2 := hide ((unhide T1).step bb)
  clear bb
  have p2 := (unhide T2).cx.c2
  have r2 := (unhide T2).cy.c2
  go_wp2_with fail
  refine (eqBal _ x ⟨aa, ca, ai, ci, ab, cb, al, cl, ats, ct, x.b⟩ rfl (unhide T2).rx (unhide T2).ry).mono ?_
  rintro e w3 ⟨rfl, bb⟩
  have T3 := hide ((unhide T2).step bb)
  clear bb
  have p3 := (unhide T3).cx.c3
  have r3 := (unhide T3).cy.c3
  go_wp2_with fail
  refine (eqLot _ x ⟨aa, ca, ai, ci, ab, cb, al, cl, ats, ct, x.b⟩ rfl (unhide T3).rx (unhide T3).ry).mono ?_
  rintro e w4 ⟨rfl, bb⟩
  have T4 := hide ((unhide T3).step bb)
  clear bb
  have p4 := (unhide T4).cx.c4
  have r4 := (unhide T4).cy.c4
  go_wp2_with fail
  refine (eqTrade _ x ⟨aa, ca, ai, ci, ab, cb, al, cl, ats, ct, x.b⟩ rfl (unhide T4).rx (unhide T4).ry).mono ?_
  rintro e w5 ⟨rfl, bb⟩
  have T5 := hide ((unhide T4).step bb)
  clear bb
  have p5 := (unhide T5).cx.c5
  have r5 := (unhide T5).cy.c5
  go_wp2
  go_ret
  exact ⟨rfl, (unhide T5).b⟩
set_option maxRecDepth 100000 in
set_option maxHeartbeats 4000000 in
theorem markBV (w : World) (base : Nat) (x : Ix) (h : OwV w base x) (hb : base ≤ w.heap.size) (hs : Small x.b) :
    Calls Tryz.prog 10 #[.agg #[.slice x.aa x.b.ac.length x.ca, .slice x.ai x.b.ic.length x.ci, .slice x.ab x.b.bs.length x.cb, .slice x.al x.b.ls.length x.cl, .slice x.ats x.b.ts.length x.ct, .int .i64 x.b.lot], .int .i64 1] w fun e w' => e = .returned (.int .i64 (e5 x.b)) ∧ OwMV w' base x ∧ TurnV x w w' := by
  obtain ⟨⟨l1, u1⟩, ⟨l2, u2⟩, ⟨l3, u3⟩, ⟨l4, u4⟩, ⟨l5, u5⟩⟩ := e_bd hs
  obtain ⟨na, ni, nb, nl, nt⟩ := hs
  have za := hide (show some w.heap.size ≠ (Value.slice x.aa x.b.ac.length x.ca).ownBlock from fun e => by have := (World.ownsRow.lt h.oa _ e.symm).2; omega)
  have Oa := hide (row_step h.oa (one_more w (.cells #[.slice x.aa x.b.ac.length x.ca, .slice x.ai x.b.ic.length x.ci, .slice x.ab x.b.bs.length x.cb, .slice x.al x.b.ls.length x.cl, .slice x.ats x.b.ts.length x.ct, .int .i64 x.b.lot] 29)))
  have zi := hide (show some w.heap.size ≠ (Value.slice x.ai x.b.ic.length x.ci).ownBlock from fun e => by have := (World.ownsRow.lt h.oi _ e.symm).2; omega)
  have Oi := hide (row_step h.oi (one_more w (.cells #[.slice x.aa x.b.ac.length x.ca, .slice x.ai x.b.ic.length x.ci, .slice x.ab x.b.bs.length x.cb, .slice x.al x.b.ls.length x.cl, .slice x.ats x.b.ts.length x.ct, .int .i64 x.b.lot] 29)))
  have zb := hide (show some w.heap.size ≠ (Value.slice x.ab x.b.bs.length x.cb).ownBlock from fun e => by have := (World.ownsRow.lt h.ob _ e.symm).2; omega)
  have Ob := hide (row_step h.ob (one_more w (.cells #[.slice x.aa x.b.ac.length x.ca, .slice x.ai x.b.ic.length x.ci, .slice x.ab x.b.bs.length x.cb, .slice x.al x.b.ls.length x.cl, .slice x.ats x.b.ts.length x.ct, .int .i64 x.b.lot] 29)))
  have zl := hide (show some w.heap.size ≠ (Value.slice x.al x.b.ls.length x.cl).ownBlock from fun e => by have := (World.ownsRow.lt h.ol _ e.symm).2; omega)
  have Ol := hide (row_step h.ol (one_more w (.cells #[.slice x.aa x.b.ac.length x.ca, .slice x.ai x.b.ic.length x.ci, .slice x.ab x.b.bs.length x.cb, .slice x.al x.b.ls.length x.cl, .slice x.ats x.b.ts.length x.ct, .int .i64 x.b.lot] 29)))
  have zt := hide (show some w.heap.size ≠ (Value.slice x.ats x.b.ts.length x.ct).ownBlock from fun e => by have := (World.ownsRow.lt h.ot _ e.symm).2; omega)
  have Ot := hide (row_step h.ot (one_more w (.cells #[.slice x.aa x.b.ac.length x.ca, .slice x.ai x.b.ic.length x.ci, .slice x.ab x.b.bs.length x.cb, .slice x.al x.b.ls.length x.cl, .slice x.ats x.b.ts.length x.ct, .int .i64 x.b.lot] 29)))
  have B0 := hide (show TurnV x w (w.alloc (.cells #[.slice x.aa x.b.ac.length x.ca, .slice x.ai x.b.ic.length x.ci, .slice x.ab x.b.bs.length x.cb, .slice x.al x.b.ls.length x.cl, .slice x.ats x.b.ts.length x.ct, .int .i64 x.b.lot] 29)) from TurnV.of (one_more _ _))
  have C0 := hide (boxedV w x 29)
  clear h
  go_enter Tryz.func10, Tryz.ntmps10
  go_wp2_with fail
  refine (markAccount _ base _ x.ca x.aa 1 x.b.ac na (by omega) (by omega) (unhide Oa)).mono ?_
  rintro e w1 ⟨he, o, gr⟩
  replace he : e = .returned (.int .i64 (e1 x.b)) := he
  subst he
  have B1 := hide ((unhide B0).grown gr (.inl rfl))
  have C1 := hide (show ClV w1 w.heap.size x from ⟨gr.cell (unhide C0).c0 (unhide za), gr.cell (unhide C0).c1 (unhide za), gr.cell (unhide C0).c2 (unhide za), gr.cell (unhide C0).c3 (unhide za), gr.cell (unhide C0).c4 (unhide za), gr.cell (unhide C0).c5 (unhide za)⟩)
  have Ni := hide (other (unhide Oi) (unhide Oa) (by decide) gr)
  have Nb := hide (other (unhide Ob) (unhide Oa) (by decide) gr)
  have Nl := hide (other (unhide Ol) (unhide Oa) (by decide) gr)
  have Nt := hide (other (unhide Ot) (unhide Oa) (by decide) gr)
  replace Oa := hide o
  replace Oi := Ni
  clear Ni
  replace Ob := Nb
  clear Nb
  replace Ol := Nl
  clear Nl
  replace Ot := Nt
  clear Nt
  clear o gr
  have p1 := (unhide C1).c1
  go_wp2_with fail
  refine (markInstr _ base _ x.ci x.ai (e1 x.b) x.b.ic ni (by omega) (by omega) (unhide Oi)).mono ?_
  rintro e w2 ⟨he, o, gr⟩
  replace he : e = .returned (.int .i64 (e2 x.b)) := he
  subst he
  have B2 := hide ((unhide B1).grown gr (.inr (.inl rfl)))
  have C2 := hide (show ClV w2 w.heap.size x from ⟨gr.cell (unhide C1).c0 (unhide zi), gr.cell (unhide C1).c1 (unhide zi), gr.cell (unhide C1).c2 (unhide zi), gr.cell (unhide C1).c3 (unhide zi), gr.cell (unhide C1).c4 (unhide zi), gr.cell (unhide C1).c5 (unhide zi)⟩)
  have Na := hide (other (unhide Oa) (unhide Oi) (by decide) gr)
  have Nb := hide (other (unhide Ob) (unhide Oi) (by decide) gr)
  have Nl := hide (other (unhide Ol) (unhide Oi) (by decide) gr)
  have Nt := hide (other (unhide Ot) (unhide Oi) (by decide) gr)
  replace Oi := hide o
  replace Oa := Na
  clear Na
  replace Ob := Nb
  clear Nb
  replace Ol := Nl
  clear Nl
  replace Ot := Nt
  clear Nt
  clear o gr
  have p2 := (unhide C2).c2
  go_wp2_with fail
  refine (markBal _ base _ x.cb x.ab (e2 x.b) x.b.bs nb (by omega) (by omega) (unhide Ob)).mono ?_
  rintro e w3 ⟨he, o, gr⟩
  replace he : e = .returned (.int .i64 (e3 x.b)) := he
  subst he
  have B3 := hide ((unhide B2).grown gr (.inr (.inr (.inl rfl))))
  have C3 := hide (show ClV w3 w.heap.size x from ⟨gr.cell (unhide C2).c0 (unhide zb), gr.cell (unhide C2).c1 (unhide zb), gr.cell (unhide C2).c2 (unhide zb), gr.cell (unhide C2).c3 (unhide zb), gr.cell (unhide C2).c4 (unhide zb), gr.cell (unhide C2).c5 (unhide zb)⟩)
  have Na := hide (other (unhide Oa) (unhide Ob) (by decide) gr)
  have Ni := hide (other (unhide Oi) (unhide Ob) (by decide) gr)
  have Nl := hide (other (unhide Ol) (unhide Ob) (by decide) gr)
  have Nt := hide (other (unhide Ot) (unhide Ob) (by decide) gr)
  replace Ob := hide o
  replace Oa := Na
  clear Na
  replace Oi := Ni
  clear Ni
  replace Ol := Nl
  clear Nl
  replace Ot := Nt
  clear Nt
  clear o gr
  have p3 := (unhide C3).c3
  go_wp2_with fail
  refine (markLot _ base _ x.cl x.al (e3 x.b) x.b.ls nl (by omega) (by omega) (unhide Ol)).mono ?_
  rintro e w4 ⟨he, o, gr⟩
  replace he : e = .returned (.int .i64 (e4 x.b)) := he
  subst he
  have B4 := hide ((unhide B3).grown gr (.inr (.inr (.inr (.inl rfl)))))
  have C4 := hide (show ClV w4 w.heap.size x from ⟨gr.cell (unhide C3).c0 (unhide zl), gr.cell (unhide C3).c1 (unhide zl), gr.cell (unhide C3).c2 (unhide zl), gr.cell (unhide C3).c3 (unhide zl), gr.cell (unhide C3).c4 (unhide zl), gr.cell (unhide C3).c5 (unhide zl)⟩)
  have Na := hide (other (unhide Oa) (unhide Ol) (by decide) gr)
  have Ni := hide (other (unhide Oi) (unhide Ol) (by decide) gr)
  have Nb := hide (other (unhide Ob) (unhide Ol) (by decide) gr)
  have Nt := hide (other (unhide Ot) (unhide Ol) (by decide) gr)
  replace Ol := hide o
  replace Oa := Na
  clear Na
  replace Oi := Ni
  clear Ni
  replace Ob := Nb
  clear Nb
  replace Ot := Nt
  clear Nt
  clear o gr
  have p4 := (unhide C4).c4
  go_wp2_with fail
  refine (markTrade _ base _ x.ct x.ats (e4 x.b) x.b.ts nt (by omega) (by omega) (unhide Ot)).mono ?_
  rintro e w5 ⟨he, o, gr⟩
  replace he : e = .returned (.int .i64 (e5 x.b)) := he
  subst he
  have B5 := hide ((unhide B4).grown gr (.inr (.inr (.inr (.inr rfl)))))
  have C5 := hide (show ClV w5 w.heap.size x from ⟨gr.cell (unhide C4).c0 (unhide zt), gr.cell (unhide C4).c1 (unhide zt), gr.cell (unhide C4).c2 (unhide zt), gr.cell (unhide C4).c3 (unhide zt), gr.cell (unhide C4).c4 (unhide zt), gr.cell (unhide C4).c5 (unhide zt)⟩)
  have Na := hide (other (unhide Oa) (unhide Ot) (by decide) gr)
  have Ni := hide (other (unhide Oi) (unhide Ot) (by decide) gr)
  have Nb := hide (other (unhide Ob) (unhide Ot) (by decide) gr)
  have Nl := hide (other (unhide Ol) (unhide Ot) (by decide) gr)
  replace Ot := hide o
  replace Oa := Na
  clear Na
  replace Oi := Ni
  clear Ni
  replace Ob := Nb
  clear Nb
  replace Ol := Nl
  clear Nl
  clear o gr
  go_wp2
  go_ret
  exact ⟨rfl, ⟨unhide Oa, unhide Oi, unhide Ob, unhide Ol, unhide Ot⟩, unhide B5⟩
set_option maxRecDepth 100000 in
set_option maxHeartbeats 2000000 in
theorem heldBV (w : World) (base : Nat) (x : Ix) (h : OwMV w base x) (hs : Small x.b) :
    Calls Tryz.prog 11 #[.agg #[.slice x.aa x.b.ac.length x.ca, .slice x.ai x.b.ic.length x.ci, .slice x.ab x.b.bs.length x.cb, .slice x.al x.b.ls.length x.cl, .slice x.ats x.b.ts.length x.ct, .int .i64 x.b.lot], .int .i64 1] w fun e w' => e = .returned (.int .i64 (e5 x.b)) ∧ Below w.heap.size w w' := by
  obtain ⟨⟨l1, u1⟩, ⟨l2, u2⟩, ⟨l3, u3⟩, ⟨l4, u4⟩, ⟨l5, u5⟩⟩ := e_bd hs
  obtain ⟨na, ni, nb, nl, nt⟩ := hs
  have B0 := hide (one_more w (.cells #[.slice x.aa x.b.ac.length x.ca, .slice x.ai x.b.ic.length x.ci, .slice x.ab x.b.bs.length x.cb, .slice x.al x.b.ls.length x.cl, .slice x.ats x.b.ts.length x.ct, .int .i64 x.b.lot] 29))
  have H0 := hide (h.step (one_more w (.cells #[.slice x.aa x.b.ac.length x.ca, .slice x.ai x.b.ic.length x.ci, .slice x.ab x.b.bs.length x.cb, .slice x.al x.b.ls.length x.cl, .slice x.ats x.b.ts.length x.ct, .int .i64 x.b.lot] 29)))
  have t1 : ¬ e1 x.b < 0 := by omega
  have t2 : ¬ e2 x.b < 0 := by omega
  have t3 : ¬ e3 x.b < 0 := by omega
  have t4 : ¬ e4 x.b < 0 := by omega
  have t5 : ¬ e5 x.b < 0 := by omega
  clear h
  go_enter Tryz.func11, Tryz.ntmps11
  go_wp2_with fail
  refine (heldAccount _ base _ x.ca x.aa 1 na (by omega) (by omega) (unhide H0).oa).mono ?_
  rintro e w1 ⟨he, rfl⟩
  replace he : e = .returned (.int .i64 (e1 x.b)) := he
  subst he
  go_wp2_with fail
  refine (heldInstr _ base _ x.ci x.ai (e1 x.b) ni (by omega) (by omega) (unhide H0).oi).mono ?_
  rintro e w2 ⟨he, rfl⟩
  replace he : e = .returned (.int .i64 (e2 x.b)) := he
  subst he
  go_wp2_with fail
  refine (heldBal _ base _ x.cb x.ab (e2 x.b) nb (by omega) (by omega) (unhide H0).ob).mono ?_
  rintro e w3 ⟨he, rfl⟩
  replace he : e = .returned (.int .i64 (e3 x.b)) := he
  subst he
  go_wp2_with fail
  refine (heldLot _ base _ x.cl x.al (e3 x.b) nl (by omega) (by omega) (unhide H0).ol).mono ?_
  rintro e w4 ⟨he, rfl⟩
  replace he : e = .returned (.int .i64 (e4 x.b)) := he
  subst he
  go_wp2_with fail
  refine (heldTrade _ base _ x.ct x.ats (e4 x.b) nt (by omega) (by omega) (unhide H0).ot).mono ?_
  rintro e w5 ⟨he, rfl⟩
  replace he : e = .returned (.int .i64 (e5 x.b)) := he
  subst he
  go_wp2
  go_ret
  exact ⟨rfl, unhide B0⟩
end Go.Proofs.YtefcigaalgfmiaaGreatDoor.VB13
namespace Go.Proofs.YtefcigaalgfmiaaGreatDoor.ByteH
open Go.ChangeShapes Go.WideShapes Go.ChangeAt Go.RowKit
theorem hide {p : Prop} (h : p) : Hid p := h
theorem unhide {p : Prop} (h : Hid p) : p := h
theorem info8 : (Tryz.prog.info? 5).map (fun i => (i.zero, i.size, i.bytes)) = some (some (.int .u8 0), 1, 1) := by kernel_rfl
/-- The numbers of a list of the call's own: block g from its head on. -/
def At (w : World) (g : Nat) (xs : List Int) : Prop := ∀ i, i < xs.length → w.cell? ⟨g, i, none⟩ = some (.int .u8 (xs.getD i 0))
/-- A list that came in, or any other one: nothing is asked where it is empty. -/
def Reads (w : World) (a : Option Addr) (xs : List Int) : Prop :=
  xs.length = 0 ∨ ∃ b off, a = some ⟨b, off, none⟩ ∧ b < w.heap.size ∧ ∀ i, i < xs.length → w.cell? ⟨b, off + i, none⟩ = some (.int .u8 (xs.getD i 0))
/-- A list of the call's own, from block number base on. -/
def Own (w : World) (base g n cap : Nat) (xs : List Int) : Prop := w.ownsRow base 5 1 (.slice (some ⟨g, 0, none⟩) n cap) n (xs.map (Value.int .u8))
theorem Own.len {w : World} {base g n cap : Nat} {xs : List Int} (h : Own w base g n cap xs) : xs.length = n := by
  have := h.1
  simpa using this
theorem Own.lt {w : World} {base g n cap : Nat} {xs : List Int} (h : Own w base g n cap xs) : base ≤ g ∧ g < w.heap.size := World.ownsRow.lt h g rfl
theorem Own.at {w : World} {base g n cap : Nat} {xs : List Int} (h : Own w base g n cap xs) : At w g xs := by
  intro i hi
  have hl := h.len
  have := World.ownsRow.cellAt h i (by omega)
  rw [this]
  simp [List.getD, hi]
theorem Own.free {w : World} {base g n cap : Nat} {xs : List Int} (h : Own w base g n cap xs) (i : Nat) : w.frozen? ⟨g, i, none⟩ = false := World.ownsRow.frozenAt h i
theorem Own.mono {w : World} {base base' g n cap : Nat} {xs : List Int} (h : Own w base g n cap xs) (hb : base' ≤ base) : Own w base' g n cap xs := by
  refine ⟨h.1, ?_⟩
  rcases h.2 with ⟨h1, _⟩ | ⟨g', c, cur, h1, h2, h3⟩
  · simp at h1
  · exact Or.inr ⟨g', c, cur, h1, Nat.le_trans hb h2, h3⟩
theorem Own.kept {w w' : World} {base g n cap : Nat} {xs : List Int} {row : Option Nat} (h : Own w base g n cap xs) (k : w.grownBy w' row) (hne : some g ≠ row) : Own w' base g n cap xs :=
  World.ownsRow.kept h k (Or.inr hne)
theorem Own.below {w w' : World} {base g n cap B : Nat} {xs : List Int} (h : Own w base g n cap xs) (k : Below B w w') (hg : g < B) : Own w' base g n cap xs := by
  refine ⟨h.1, ?_⟩
  rcases h.2 with ⟨h1, _⟩ | ⟨g', c, cur, h1, h2, h3, h4⟩
  · simp at h1
  · obtain ⟨e, _⟩ : g = g' ∧ cap = c := by simpa using h1
    subst e
    exact Or.inr ⟨g, c, cur, h1, h2, by rw [k.block g hg]; exact h3, h4⟩
theorem At.below {w w' : World} {g B : Nat} {xs : List Int} (h : At w g xs) (k : Below B w w') (hg : g < B) : At w' g xs := fun i hi => (k.cell (p := ⟨g, i, none⟩) hg).trans (h i hi)
theorem Reads.below {w w' : World} {a : Option Addr} {xs : List Int} (h : Reads w a xs) (k : Below w.heap.size w w') : Reads w' a xs := by
  rcases h with h | ⟨b, off, rfl, hb, hc⟩
  · exact Or.inl h
  · exact Or.inr ⟨b, off, rfl, Nat.lt_of_lt_of_le hb k.size, fun i hi => (k.cell (p := ⟨b, off + i, none⟩) hb).trans (hc i hi)⟩
theorem grownBy_below {w w' : World} (h : w.grownBy w' none) : Below w.heap.size w w' := ⟨h.os, h.tape, h.output, h.size, fun k hk => h.block k hk (by simp)⟩
/-- A store into a list of the call's own. -/
theorem Own.set {w : World} {base g n cap : Nat} {xs : List Int} (h : Own w base g n cap xs) (i : Nat) (x : Int) :
    Own (w.setCell ⟨g, i, none⟩ (.int .u8 x)) base g n cap (xs.set i x) ∧ w.grownBy (w.setCell ⟨g, i, none⟩ (.int .u8 x)) (some g) := by
  have := World.ownsRow.stored h i (.int .u8 x)
  refine ⟨?_, this.2⟩
  unfold Own
  rw [List.map_set]
  exact this.1
theorem getD_take (xs : List Int) (k i : Nat) (h : i < k) : (xs.take k).getD i 0 = xs.getD i 0 := by
  simp [List.getD, h]
/-- The numbers so far, and zeros behind. -/
def part (xs : List Int) (n k : Nat) : List Int := xs.take k ++ List.replicate (n - k) 0
theorem part_zero (xs : List Int) (n : Nat) : part xs n 0 = List.replicate n 0 := by simp [part]
theorem part_all (xs : List Int) (n : Nat) (h : xs.length = n) : part xs n n = xs := by
  unfold part
  rw [← h]; simp
theorem part_step (xs : List Int) (n k : Nat) (h : xs.length = n) (hk : k < n) : (part xs n k).set k (xs.getD k 0) = part xs n (k + 1) := by
  subst h
  unfold part
  apply List.ext_getElem?
  intro j
  have l1 : (xs.take k).length = k := by simp; omega
  have l2 : (xs.take (k + 1)).length = k + 1 := by simp; omega
  rw [List.getElem?_set]
  by_cases e : k = j
  · subst e
    rw [if_pos rfl, if_pos (by simp; omega), List.getElem?_append_left (by omega), List.getElem?_take, if_pos (by omega)]
    simp [List.getD, hk]
  · rw [if_neg e]
    by_cases l : j < k
    · rw [List.getElem?_append_left (by omega), List.getElem?_append_left (by omega), List.getElem?_take, List.getElem?_take, if_pos l, if_pos (by omega)]
    · rw [List.getElem?_append_right (by omega), List.getElem?_append_right (by omega), l1, l2]
      simp only [List.getElem?_replicate]
      congr 1
      · simp; omega
theorem made_zeros (n : Nat) : (madeCells (Value.int .u8 0).cells (n * 1)).toList = (List.replicate n (0 : Int)).map (Value.int .u8) := by
  have : (Value.int .u8 0).cells = #[Value.int .u8 0] := rfl
  rw [this, toList_madeCells_one, List.map_replicate, Nat.mul_one]
set_option maxRecDepth 100000 in
theorem toByteS (w : World) (a : Option Addr) (len cap : Nat) (xs : List Int) (hl : xs.length = len) (h20 : len ≤ 100000000) (hr : Reads w a xs) :
    Calls Tryz.prog 5 #[.slice a len cap] w fun e w' => e = .returned (.slice (some ⟨w.heap.size, 0, none⟩) len len) ∧ Own w' w.heap.size w.heap.size len len xs ∧ Below w.heap.size w w' := by
  obtain ⟨i0, hi, hz0, hz1, hz2⟩ := info_parts info8
  go_enter Tryz.func5, Tryz.ntmps5
  go_wp2_with (at_make; refine wpList_make_full _ rfl _ _ 22 rfl w.heap.size 5 i0 (.int .u8 0) 1 Tryz.underlying22 hi hz0 hz1 .i64 .i64 _ _ len rfl rfl rfl rfl (by rw [hz2]; omega) (by unfold maxLen; omega) (Nat.le_refl _) ?_; intro w1 hown hgrow)
  rw [made_zeros, ← part_zero xs] at hown
  have hb := grownBy_below hgrow
  clear hgrow
  go_loopw [4] (fun i wr => ∃ (k : Nat), k ≤ len ∧ i = .int .i64 k ∧ Own wr w.heap.size w.heap.size len len (part xs len k) ∧ Below w.heap.size w wr) (fun i _ => len - (intOf i).toNat)
  case atStart => exact ⟨0, by omega, rfl, hown, hb⟩
  case round =>
    clear hown hb
    obtain ⟨k, hk, rfl, hown, hb⟩ := hrel
    by_cases t : k < len
    · rcases hr with hz | ⟨b, off, rfl, hlt, hcell⟩
      · omega
      have hc := (hb.cell (p := ⟨b, off + k, none⟩) hlt).trans (hcell k (by omega))
      clear hcell
      have hs := hide (Own.set hown k (xs.getD k 0))
      have hc2 := Own.at hown k (by rw [Own.len hown]; exact t)
      have hf := Own.free hown k
      have HO := hide hown
      have HB := hide hb
      clear hown hb
      generalize hz : xs.getD k 0 = z at *
      go_wp2
      go_roundw
      case rel =>
        obtain ⟨o, g⟩ := unhide hs
        rw [← hz, part_step xs len k hl t] at o
        exact ⟨k + 1, by omega, by go_num, by rw [← hz]; exact o, (unhide HB).setCell (Nat.le_refl _) _⟩
      case measure => simp [intOf]; omega
    · obtain rfl : k = len := by omega
      rw [part_all xs k hl] at hown
      have HO := hide hown
      have HB := hide hb
      clear hown hb hr
      go_wp2
      go_ret
      exact ⟨rfl, unhide HO, unhide HB⟩
set_option maxRecDepth 100000 in
theorem eqByteS (w : World) (g1 g2 n c1 c2 : Nat) (xs : List Int) (hl : xs.length = n) (h20 : n ≤ 100000000) (h1 : At w g1 xs) (h2 : At w g2 xs) :
    Calls Tryz.prog 8 #[.slice (some ⟨g1, 0, none⟩) n c1, .slice (some ⟨g2, 0, none⟩) n c2] w fun e w' => e = .returned (.bool true) ∧ Below w.heap.size w w' := by
  go_enter Tryz.func8, Tryz.ntmps8
  go_wp2
  go_loopw [5] (fun i wr => ∃ (k : Nat), k ≤ n ∧ i = .int .i64 k ∧ At wr g1 xs ∧ At wr g2 xs ∧ Below w.heap.size w wr) (fun i _ => n - (intOf i).toNat)
  case atStart => exact ⟨0, by omega, rfl, h1, h2, Below.refl _ _⟩
  case round =>
    clear h1 h2
    obtain ⟨k, hk, rfl, h1, h2, hb⟩ := hrel
    by_cases t : k < n
    · have e1 := h1 k (by omega)
      have e2 := h2 k (by omega)
      have H1 := hide h1
      have H2 := hide h2
      have HB := hide hb
      clear h1 h2 hb
      generalize xs.getD k 0 = z at *
      go_wp2
      go_region
      go_wp2
      go_roundw
      case rel => exact ⟨k + 1, by omega, by go_num, unhide H1, unhide H2, (unhide HB).drew⟩
      case measure => simp [intOf]; omega
    · have HB := hide hb
      clear h1 h2 hb
      go_wp2
      go_ret
      exact ⟨rfl, unhide HB⟩
/-- The marks: numbers from k on. -/
def marks (k : Int) (n : Nat) : List Int := (List.range n).map fun (i : Nat) => (k + i) % 256
theorem marks_len (k : Int) (n : Nat) : (marks k n).length = n := by simp [marks]
theorem marks_getD (k : Int) (n i : Nat) (h : i < n) : (marks k n).getD i 0 = (k + i) % 256 := by simp [marks, List.getD, h]
/-- The marks so far, and what stood behind. -/
def marked (xs : List Int) (k : Int) (n j : Nat) : List Int := (marks k n).take j ++ xs.drop j
theorem marked_zero (xs : List Int) (k : Int) (n : Nat) : marked xs k n 0 = xs := by simp [marked]
theorem marked_all (xs : List Int) (k : Int) (n : Nat) (h : xs.length = n) : marked xs k n n = marks k n := by
  unfold marked
  rw [List.take_of_length_le (by rw [marks_len]; exact Nat.le_refl _), List.drop_of_length_le (by omega), List.append_nil]
theorem marked_step (xs : List Int) (k : Int) (n j : Nat) (h : xs.length = n) (hj : j < n) : (marked xs k n j).set j ((k + j) % 256) = marked xs k n (j + 1) := by
  unfold marked
  have l := marks_len k n
  have g := marks_getD k n j hj
  have l1 : ((marks k n).take j).length = j := by simp; omega
  have l2 : ((marks k n).take (j + 1)).length = j + 1 := by simp; omega
  apply List.ext_getElem?
  intro i
  rw [List.getElem?_set]
  by_cases e : j = i
  · subst e
    rw [if_pos rfl, if_pos (by simp; omega), List.getElem?_append_left (by omega), List.getElem?_take, if_pos (by omega), ← g]
    simp [List.getD, l, hj]
  · rw [if_neg e]
    by_cases s : i < j
    · rw [List.getElem?_append_left (by omega), List.getElem?_append_left (by omega), List.getElem?_take, List.getElem?_take, if_pos s, if_pos (by omega)]
    · rw [List.getElem?_append_right (by omega), List.getElem?_append_right (by omega), l1, l2]
      simp only [List.getElem?_drop]
      congr 1
      omega
set_option maxRecDepth 100000 in
theorem markByteS (w : World) (base g n cap : Nat) (s : Int) (xs : List Int) (h20 : n ≤ 100000000) (s0 : 0 ≤ s) (s1 : s ≤ 100000000) (ho : Own w base g n cap xs) :
    Calls Tryz.prog 9 #[.slice (some ⟨g, 0, none⟩) n cap, .int .i64 s] w fun e w' => e = .returned (.int .i64 (s + (n : Int))) ∧ Own w' base g n cap (marks s n) ∧ w.grownBy w' (some g) := by
  have hl := ho.len
  have ho' : Own w base g n cap (marked xs s n 0) := by rw [marked_zero]; exact ho
  clear ho
  go_enter Tryz.func9, Tryz.ntmps9
  go_wp2
  go_loopw [1, 5] (fun m i wr => ∃ (k : Nat), k ≤ n ∧ i = .int .i64 k ∧ m = .int .i64 (s + (k : Int)) ∧ Own wr base g n cap (marked xs s n k) ∧ w.grownBy wr (some g)) (fun _ i _ => n - (intOf i).toNat)
  case atStart => exact ⟨0, by omega, rfl, by go_num, ho', World.grownBy.refl _ _⟩
  case round =>
    clear ho'
    obtain ⟨k, hk, rfl, rfl, hown, hg⟩ := hrel
    by_cases t : k < n
    · have hs := hide (Own.set hown k ((s + k) % 256))
      have hc2 := Own.at hown k (by rw [Own.len hown]; exact t)
      have hf := Own.free hown k
      have HG := hide hg
      clear hown hg
      generalize (marked xs s n k).getD k 0 = z at hc2
      go_wp2
      go_roundw
      case rel =>
        obtain ⟨o, q⟩ := unhide hs
        rw [marked_step xs s n k hl t] at o
        have G := unhide HG
        exact ⟨k + 1, by omega, by go_num, by go_num, o, q.os.trans G.os, q.tape.trans G.tape, q.output.trans G.output, Nat.le_trans G.size q.size, fun j hj hne => (q.block j (Nat.lt_of_lt_of_le hj G.size) hne).trans (G.block j hj hne)⟩
      case measure => simp [intOf]; omega
    · obtain rfl : k = n := by omega
      rw [marked_all xs s k hl] at hown
      have HO := hide hown
      have HG := hide hg
      clear hown hg
      go_wp2
      go_ret
      exact ⟨rfl, unhide HO, unhide HG⟩
/-- The bytes of a list that came in are bytes. -/
def In (xs : List Int) : Prop := ∀ i, i < xs.length → 0 ≤ xs.getD i 0 ∧ xs.getD i 0 ≤ 255
end Go.Proofs.YtefcigaalgfmiaaGreatDoor.ByteH
namespace Go.Proofs.YtefcigaalgfmiaaGreatDoor.VOB
open Go.ChangeShapes Go.WideShapes Go.ChangeAt Go.RowKit
open ByteH (Own At marks marks_len marks_getD hide unhide)
/-- A list of the call's own, from block number base on; nil where it is empty, perhaps. -/
def Ob (w : World) (base : Nat) (a : Option Addr) (n cap : Nat) (xs : List Int) : Prop := w.ownsRow base 5 1 (.slice a n cap) n (xs.map (Value.int .u8))
theorem Ob.of {w : World} {base g n cap : Nat} {xs : List Int} (h : Own w base g n cap xs) : Ob w base (some ⟨g, 0, none⟩) n cap xs := h
theorem Ob.nil (w : World) (base : Nat) : Ob w base none 0 0 [] := World.ownsRow_nil w base _ _
section
variable {w w' : World} {base n cap : Nat} {a : Option Addr} {xs : List Int}
theorem Ob.len (h : Ob w base a n cap xs) : xs.length = n := by have := h.1; simpa using this
theorem Ob.either (h : Ob w base a n cap xs) : (a = none ∧ n = 0 ∧ xs = []) ∨ ∃ g, a = some ⟨g, 0, none⟩ ∧ Own w base g n cap xs := by
  have hl := h.len
  rcases h.2 with ⟨h1, _⟩ | ⟨g, c, cur, h1, _⟩
  · have : a = none ∧ n = 0 ∧ cap = 0 := by simpa using h1
    obtain ⟨rfl, rfl, rfl⟩ := this
    exact .inl ⟨rfl, rfl, List.eq_nil_of_length_eq_zero hl⟩
  · have : a = some ⟨g, 0, none⟩ ∧ cap = c := by simpa using h1
    obtain ⟨rfl, rfl⟩ := this
    exact .inr ⟨g, rfl, h⟩
/-- Its block lies between two numbers. -/
def Btw (lo hi : Nat) (a : Option Addr) : Prop := ∀ x, a = some x → lo ≤ x.block ∧ x.block < hi
theorem Ob.btw (h : Ob w base a n cap xs) : Btw base w.heap.size a := by
  intro x hx
  rcases h.either with ⟨rfl, _⟩ | ⟨g, rfl, o⟩
  · cases hx
  · cases hx; exact o.lt
theorem Btw.mono {lo hi lo' hi' : Nat} (h : Btw lo hi a) (h1 : lo' ≤ lo) (h2 : hi ≤ hi') : Btw lo' hi' a := fun x hx => ⟨Nat.le_trans h1 (h x hx).1, Nat.lt_of_lt_of_le (h x hx).2 h2⟩
theorem Ob.mono {base' : Nat} (h : Ob w base a n cap xs) (hb : base' ≤ base) : Ob w base' a n cap xs := by
  rcases h.either with ⟨rfl, rfl, rfl⟩ | ⟨g, rfl, o⟩
  · refine ⟨h.1, ?_⟩
    rcases h.2 with h | ⟨g, c, cur, h1, _⟩
    · exact .inl h
    · simp at h1
  · exact o.mono hb
theorem Ob.below {B : Nat} (h : Ob w base a n cap xs) (k : Below B w w') (hb : Btw 0 B a) : Ob w' base a n cap xs := by
  rcases h.either with ⟨rfl, rfl, rfl⟩ | ⟨g, rfl, o⟩
  · refine ⟨h.1, ?_⟩
    rcases h.2 with h | ⟨g, c, cur, h1, _⟩
    · exact .inl h
    · simp at h1
  · exact o.below k (hb _ rfl).2
theorem Ob.step (h : Ob w base a n cap xs) (k : Below w.heap.size w w') : Ob w' base a n cap xs := h.below k (h.btw.mono (Nat.zero_le _) (Nat.le_refl _))
theorem Ob.kept {row : Option Nat} (h : Ob w base a n cap xs) (k : w.grownBy w' row) (hr : ∀ x, a = some x → some x.block ≠ row) : Ob w' base a n cap xs := by
  rcases h.either with ⟨rfl, rfl, rfl⟩ | ⟨g, rfl, o⟩
  · refine ⟨h.1, ?_⟩
    rcases h.2 with h | ⟨g, c, cur, h1, _⟩
    · exact .inl h
    · simp at h1
  · exact o.kept k (hr _ rfl)
end
/-- What is read of it. -/
def Rd (w : World) (a : Option Addr) (xs : List Int) : Prop := xs = [] ∨ ∃ g, a = some ⟨g, 0, none⟩ ∧ g < w.heap.size ∧ At w g xs
theorem Ob.rd {w : World} {base n cap : Nat} {a : Option Addr} {xs : List Int} (h : Ob w base a n cap xs) : Rd w a xs := by
  rcases h.either with ⟨rfl, rfl, rfl⟩ | ⟨g, rfl, o⟩
  · exact .inl rfl
  · exact .inr ⟨g, rfl, o.lt.2, o.at⟩
theorem Rd.below {w w' : World} {a : Option Addr} {xs : List Int} (h : Rd w a xs) (k : Below w.heap.size w w') : Rd w' a xs := by
  rcases h with h | ⟨g, e, hl, hc⟩
  · exact .inl h
  · exact .inr ⟨g, e, Nat.lt_of_lt_of_le hl k.size, hc.below k hl⟩
end Go.Proofs.YtefcigaalgfmiaaGreatDoor.VOB
namespace Go.Proofs.YtefcigaalgfmiaaGreatDoor.SBytes
open Go.ChangeShapes Go.WideShapes Go.ChangeAt Go.RowKit
theorem hide {p : Prop} (h : p) : Hid p := h
theorem unhide {p : Prop} (h : Hid p) : p := h
/-- The bytes of a list: block g from its head on. -/
def AtB (w : World) (g : Nat) (xs : List Int) : Prop := ∀ i, i < xs.length → w.cell? ⟨g, i, none⟩ = some (.int .u8 (xs.getD i 0)) ∧ 0 ≤ xs.getD i 0 ∧ xs.getD i 0 ≤ 255
theorem AtB.below {w w' : World} {g B : Nat} {xs : List Int} (h : AtB w g xs) (k : Below B w w') (hg : g < B) : AtB w' g xs := fun i hi => ⟨(k.cell (p := ⟨g, i, none⟩) hg).trans (h i hi).1, (h i hi).2⟩
/-- What the first k bytes from at on are worth. -/
def val (xs : List Int) (at' : Nat) : Nat → Int
  | 0 => 0
  | k + 1 => val xs at' k + xs.getD (at' + k) 0 % 128 * 128 ^ k
/-- The number that is read from at on, k bytes being read and f left. -/
def getF (xs : List Int) (at' : Nat) : Nat → Nat → Int × Int × Bool
  | 0, _ => (0, 0, false)
  | f + 1, k => if at' + k < xs.length then (if xs.getD (at' + k) 0 < 128 then (if xs.getD (at' + k) 0 = 0 ∧ 0 < k then (0, 0, false) else (val xs at' (k + 1), ((at' + k + 1 : Nat) : Int), true)) else getF xs at' f (k + 1)) else (0, 0, false)
/-- The number that is read from at on. -/
def getN (xs : List Int) (at' : Int) : Int × Int × Bool := if at' < 0 ∨ (xs.length : Int) ≤ at' then (0, 0, false) else getF xs at'.toNat 9 0
theorem pow_le (k : Nat) (h : k ≤ 8) : 1 ≤ (128 : Int) ^ k ∧ (128 : Int) ^ k ≤ 72057594037927936 := by
  have : k = 0 ∨ k = 1 ∨ k = 2 ∨ k = 3 ∨ k = 4 ∨ k = 5 ∨ k = 6 ∨ k = 7 ∨ k = 8 := by omega
  rcases this with rfl | rfl | rfl | rfl | rfl | rfl | rfl | rfl | rfl <;> decide
theorem pow_more (k : Nat) : (128 : Int) ^ (k + 1) = 128 ^ k * 128 := Int.pow_succ 128 k
theorem val_in (xs : List Int) (at' k : Nat) : 0 ≤ val xs at' k ∧ val xs at' k < 128 ^ k := by
  induction k with
  | zero => simp [val]
  | succ k ih =>
    have p : (0 : Int) ≤ 128 ^ k := by omega
    have d0 : 0 ≤ xs.getD (at' + k) 0 % 128 := by omega
    have d1 : xs.getD (at' + k) 0 % 128 ≤ 127 := by omega
    have m0 := Int.mul_nonneg d0 p
    have m1 := Int.mul_le_mul_of_nonneg_right d1 p
    rw [pow_more]
    simp only [val]
    omega
set_option maxRecDepth 100000 in
set_option maxHeartbeats 8000000 in
theorem sGetNum (w : World) (g cap : Nat) (xs : List Int) (at' : Int) (h20 : xs.length ≤ 1048576) (hr : AtB w g xs) :
    Calls Tryz.prog 13 #[.slice (some ⟨g, 0, none⟩) xs.length cap, .int .i64 at'] w fun e w' => e = .returned (.tuple #[.int .i64 (getN xs at').1, .int .i64 (getN xs at').2.1, .bool (getN xs at').2.2]) ∧ w' = w := by
  have R := hide hr
  clear hr
  by_cases p0 : at' < 0
  · have e : getN xs at' = (0, 0, false) := by unfold getN; rw [if_pos (.inl p0)]
    rw [e]
    clear e
    go_enter Tryz.func13, Tryz.ntmps13
    go_wp2
    go_ret3
    exact ⟨rfl, rfl⟩
  by_cases p1 : (xs.length : Int) ≤ at'
  · have e : getN xs at' = (0, 0, false) := by unfold getN; rw [if_pos (.inr p1)]
    rw [e]
    clear e
    go_enter Tryz.func13, Tryz.ntmps13
    go_wp2
    go_ret3
    exact ⟨rfl, rfl⟩
  obtain ⟨n, rfl⟩ : ∃ n : Nat, at' = n := ⟨at'.toNat, by omega⟩
  have E0 := hide (show getN xs n = getF xs n 9 0 from by unfold getN; rw [if_neg (by omega)]; simp)
  have p2 : n < xs.length := by omega
  generalize getN xs n = r at *
  obtain ⟨r0, r1, r2⟩ := r
  go_enter Tryz.func13, Tryz.ntmps13
  go_wp2
  clear p0 p1
  go_loopw [7, 8, 9, 10] (fun a u i _ wr => ∃ (k : Nat) (x v : Int), k ≤ 9 ∧ i = .int .i64 k ∧ a = .int .i64 x ∧ u = .int .i64 v ∧ Hid (x = val xs n k) ∧ Hid (k ≤ 8 → v = 128 ^ k) ∧ Hid ((r0, r1, r2) = getF xs n (9 - k) k) ∧ wr = w) (fun _ _ i _ _ => 9 - (intOf i).toNat)
  case atStart => exact ⟨0, 0, 1, by omega, rfl, rfl, rfl, rfl, hide (fun _ => rfl), E0, rfl⟩
  case round =>
    obtain ⟨k, x, v, hk, rfl, rfl, rfl, HX, HV, HE, rfl⟩ := hrel
    clear E0
    by_cases t : k = 9
    · subst t
      have F := unhide HE
      simp only [Nat.sub_self, getF] at F
      injection F with F0 F
      injection F with F1 F2
      subst F0 F1 F2
      clear HX HV HE
      go_wp2
      go_ret3
      exact ⟨rfl, rfl⟩
    by_cases t1 : n + k < xs.length
    case neg =>
      have F := unhide HE
      rw [show 9 - k = (9 - (k + 1)) + 1 by omega] at F
      simp only [getF] at F
      rw [if_neg t1] at F
      injection F with F0 F
      injection F with F1 F2
      subst F0 F1 F2
      have a0 : wrap64 ((n : Int) + (k : Int)) = n + k := by rw [wrap64]; omega
      have a1 : ¬ ((n : Int) + k < xs.length) := by omega
      have a2 : (k : Int) < 9 := by omega
      clear HX HV HE t1 t hk
      go_wp2
      go_ret3
      exact ⟨rfl, rfl⟩
    obtain ⟨d, d0, d1⟩ := (unhide R) (n + k) t1
    have hv := (unhide HV) (by omega)
    have V1 := hide (show x + xs.getD (n + k) 0 % 128 * v = val xs n (k + 1) from by rw [unhide HX, hv]; rfl)
    have V2 := hide (show k + 1 ≤ 8 → v * 128 = 128 ^ (k + 1) from fun _ => by rw [hv, pow_more])
    have XI := hide (show 0 ≤ x ∧ x < v from by have q := val_in xs n k; rw [← hv, ← unhide HX] at q; exact q)
    have ST := hide (show (r0, r1, r2) = if xs.getD (n + k) 0 < 128 then (if xs.getD (n + k) 0 = 0 ∧ 0 < k then (0, 0, false) else (val xs n (k + 1), ((n + k + 1 : Nat) : Int), true)) else getF xs n (9 - (k + 1)) (k + 1) from by
      rw [unhide HE, show 9 - k = (9 - (k + 1)) + 1 by omega]
      simp only [getF]
      rw [if_pos t1])
    rw [← unhide V1] at ST
    clear HX HV HE
    generalize xs.getD (n + k) 0 = y at *
    have Y := hide (show 0 ≤ y ∧ y ≤ 255 from ⟨d0, d1⟩)
    have a0 : wrap64 ((n : Int) + (k : Int)) = n + k := by rw [wrap64]; omega
    have a1 : (n : Int) + k < xs.length := by omega
    have a2 : (k : Int) < 9 := by omega
    have a3 : wrap64 y = y := by rw [wrap64]; omega
    have b1 : y.tmod 128 = y % 128 := Int.tmod_eq_emod_of_nonneg d0
    have b2 : wrap64 (y % 128) = y % 128 := by rw [wrap64]; omega
    have pv := pow_le k (by omega)
    rw [← hv] at pv
    have m0 := Int.mul_nonneg (show 0 ≤ y % 128 by omega) (show 0 ≤ v by omega)
    have m1 := Int.mul_le_mul_of_nonneg_right (show y % 128 ≤ 127 by omega) (show 0 ≤ v by omega)
    have xi := unhide XI
    have b3 : wrap64 (y % 128 * v) = y % 128 * v := by
      generalize y % 128 * v = m at *
      rw [wrap64]; omega
    have b4 : wrap64 (x + y % 128 * v) = x + y % 128 * v := by
      generalize y % 128 * v = m at *
      rw [wrap64]; omega
    have b5 : wrap64 ((n : Int) + k + 1) = n + k + 1 := by rw [wrap64]; omega
    have b6 := hide (show k + 1 ≤ 8 → wrap64 (v * 128) = v * 128 from fun _ => by
      have := pow_le (k + 1) (by omega)
      rw [pow_more, ← hv] at this
      rw [wrap64]; omega)
    have B := hide (And.intro b1 (And.intro b2 (And.intro b3 (And.intro b4 b5))))
    clear hv d0 d1 t t1 pv m0 m1 xi XI b1 b2 b3 b4 b5
    by_cases y1 : y < 128
    · by_cases y2 : y = 0
      · by_cases k0 : 0 < k
        · have F := unhide ST
          rw [if_pos y1, if_pos ⟨y2, k0⟩] at F
          injection F with F0 F
          injection F with F1 F2
          subst F0 F1 F2
          subst y2
          have k1 : (0 : Int) < k := by omega
          clear ST V1 V2 hk
          go_wp2
          go_ret3
          exact ⟨rfl, rfl⟩
        · have F := unhide ST
          rw [if_pos y1, if_neg (fun h => k0 h.2)] at F
          injection F with F0 F
          injection F with F1 F2
          subst F0 F1 F2
          subst y2
          have k1 : ¬ (0 : Int) < k := by omega
          clear ST V1 V2 hk
          go_wp2
          go_ret3
          obtain ⟨b1, b2, b3, b4, b5⟩ := unhide B
          simp at b4
          exact ⟨by simp [b4, b5], rfl⟩
      · have F := unhide ST
        rw [if_pos y1, if_neg (fun h => y2 h.1)] at F
        injection F with F0 F
        injection F with F1 F2
        subst F0 F1 F2
        have y3 : (y == 0) = false := by simp [y2]
        clear ST V1 V2 hk y2
        go_wp2
        go_ret3
        obtain ⟨b1, b2, b3, b4, b5⟩ := unhide B
        exact ⟨by simp [b1, b2, b3, b4, b5], rfl⟩
    · have F := unhide ST
      rw [if_neg y1] at F
      have HF := hide F
      clear ST F
      go_wp2
      go_roundw
      case rel =>
        obtain ⟨b1, b2, b3, b4, b5⟩ := unhide B
        exact ⟨k + 1, x + y % 128 * v, wrap64 (v * 128), by omega, by go_num, by simp [b1, b2, b3, b4], rfl, V1, hide (fun h => by rw [(unhide b6) h]; exact (unhide V2) h), HF, trivial⟩
      case measure => simp [intOf]; omega
end Go.Proofs.YtefcigaalgfmiaaGreatDoor.SBytes
namespace Go.Proofs.YtefcigaalgfmiaaGreatDoor.Law11
open Go.ChangeShapes Go.WideShapes Go.ChangeAt Go.RowKit
/-- Bytes that came in, as the helpers want them. -/
theorem row_bytes {w : World} {a : Option Addr} {len cap : Nat} {zs : List Int} (h : Ints.IsRow .u8 w a len cap zs) : (zs.take len).length = len ∧ ByteH.Reads w a (zs.take len) ∧ ByteH.In (zs.take len) ∧ len ≤ 9223372036854775807 := by
  rcases h with ⟨rfl, rfl, rfl, rfl⟩ | ⟨x, rfl, hl, hm, hz, hcell, hwz⟩
  · exact ⟨rfl, .inl rfl, fun i hi => absurd hi (by simp), by omega⟩
  · have hlen : (zs.take len).length = len := by simp; omega
    have hin : ByteH.In (zs.take len) := fun i hi => by
      rw [hlen] at hi
      rw [ByteH.getD_take zs len i hi]
      have hj : i < zs.length := by omega
      have := hwz (zs.getD i 0) (by simp [List.getD, hj])
      have e0 : IntKind.u8.min = 0 := rfl
      have e1 : IntKind.u8.max = 255 := rfl
      simp only [Lit.wf, e0, e1, Bool.and_eq_true, decide_eq_true_eq] at this
      exact this
    refine ⟨hlen, ?_, hin, by unfold maxLen at hm; omega⟩
    by_cases z : len = 0
    · exact .inl (by omega)
    · obtain ⟨b, off, spot⟩ := x
      have hc := hcell 0 (by omega)
      have hspot : spot = none := by simpa [Addr.add] using World.cell?_spot hc
      subst hspot
      have hc0 : w.cell? ⟨b, off, none⟩ = some (.int .u8 (zs.getD 0 0)) := by simpa [Addr.add] using hc
      refine .inr ⟨b, off, rfl, World.block_lt_of_cell? w _ hc0, fun i hi => ?_⟩
      have k := hcell i (by omega)
      rw [ByteH.getD_take zs len i (by omega)]
      by_cases z : i = 0
      · subst z; simpa [Addr.add] using k
      · simpa [Addr.add, z] using k
theorem atB {w : World} {base g n cap : Nat} {xs : List Int} (h : ByteH.Own w base g n cap xs) (hi : ByteH.In xs) : SBytes.AtB w g xs := fun i hx => ⟨h.at i hx, hi i hx⟩
end Go.Proofs.YtefcigaalgfmiaaGreatDoor.Law11
namespace Go.Proofs.YtefcigaalgfmiaaGreatDoor.LawR13
open Go.ChangeShapes Go.WideShapes Go.ChangeAt Go.RowKit BMem Bks BHelp BkEq BMemV13 VB13
open IBalsFit (one_more)
open SRead13L (row_step)
/-- Books in a box. -/
structure Kx (W : World) (g : Nat) (x : Ix) : Prop where
  c : ClV W g x
  lt : g < W.heap.size
theorem Kx.made (w : World) (x : Ix) (e : TypeId) : Kx (w.alloc (.cells #[.slice x.aa x.b.ac.length x.ca, .slice x.ai x.b.ic.length x.ci, .slice x.ab x.b.bs.length x.cb, .slice x.al x.b.ls.length x.cl, .slice x.ats x.b.ts.length x.ct, .int .i64 x.b.lot] e)) w.heap.size x := ⟨boxedV w x e, by simp⟩
theorem Kx.step {W W' : World} {g : Nat} {x : Ix} (h : Kx W g x) (k : Below W.heap.size W W') : Kx W' g x := ⟨h.c.below k h.lt, Nat.lt_of_lt_of_le h.lt k.size⟩
theorem Kx.kept {W W' : World} {g : Nat} {x : Ix} {row : Option Nat} (h : Kx W g x) (k : W.grownBy W' row) (ne : some g ≠ row) : Kx W' g x :=
  ⟨⟨k.cell h.c.c0 ne, k.cell h.c.c1 ne, k.cell h.c.c2 ne, k.cell h.c.c3 ne, k.cell h.c.c4 ne, k.cell h.c.c5 ne⟩, Nat.lt_of_lt_of_le h.lt k.size⟩
theorem Kx.turn {W W' : World} {g : Nat} {x y : Ix} (h : Kx W g x) (k : TurnV y W W') (n0 : some g ≠ (.slice y.aa y.b.ac.length y.ca : Value).ownBlock) (n1 : some g ≠ (.slice y.ai y.b.ic.length y.ci : Value).ownBlock) (n2 : some g ≠ (.slice y.ab y.b.bs.length y.cb : Value).ownBlock) (n3 : some g ≠ (.slice y.al y.b.ls.length y.cl : Value).ownBlock) (n4 : some g ≠ (.slice y.ats y.b.ts.length y.ct : Value).ownBlock) : Kx W' g x := by
  have e : W'.heap[g]? = W.heap[g]? := k.block g h.lt n0 n1 n2 n3 n4
  have q : ∀ i, W'.cell? ⟨g, i, none⟩ = W.cell? ⟨g, i, none⟩ := fun i => World.cell?_of_block (w := W) e
  exact ⟨⟨(q 0).trans h.c.c0, (q 1).trans h.c.c1, (q 2).trans h.c.c2, (q 3).trans h.c.c3, (q 4).trans h.c.c4, (q 5).trans h.c.c5⟩, Nat.lt_of_lt_of_le h.lt k.size⟩
/-- All its lists lie below a number. -/
def UpV (x : Ix) (N : Nat) : Prop := (∀ g, x.aa = some ⟨g, 0, none⟩ → g < N) ∧ (∀ g, x.ai = some ⟨g, 0, none⟩ → g < N) ∧ (∀ g, x.ab = some ⟨g, 0, none⟩ → g < N) ∧ (∀ g, x.al = some ⟨g, 0, none⟩ → g < N) ∧ (∀ g, x.ats = some ⟨g, 0, none⟩ → g < N)
theorem up_of {W : World} {x : Ix} (h : RdV W x) : UpV x W.heap.size := ⟨fun g e => (h.ra g e).1, fun g e => (h.ri g e).1, fun g e => (h.rb g e).1, fun g e => (h.rl g e).1, fun g e => (h.rt g e).1⟩
theorem up_mono {x : Ix} {N M : Nat} (h : UpV x N) (k : N ≤ M) : UpV x M := ⟨fun g e => Nat.lt_of_lt_of_le (h.1 g e) k, fun g e => Nat.lt_of_lt_of_le (h.2.1 g e) k, fun g e => Nat.lt_of_lt_of_le (h.2.2.1 g e) k, fun g e => Nat.lt_of_lt_of_le (h.2.2.2.1 g e) k, fun g e => Nat.lt_of_lt_of_le (h.2.2.2.2 g e) k⟩
theorem low_ne {W : World} {base : Nat} {e : TypeId} {m : Nat} {v : Value} {n : Nat} {vs : List Value} {g : Nat} (h : W.ownsRow base e m v n vs) (hg : g < base) : some g ≠ v.ownBlock := fun q => by have := (World.ownsRow.lt h g q.symm).1; omega
/-- What is read of them stays, as long as what lies below that number stays. -/
theorem rd_low {W W' : World} {x : Ix} {N : Nat} (h : RdV W x) (u : UpV x N) (k : Below N W W') : RdV W' x :=
  ⟨h.ea, fun g e => ⟨Nat.lt_of_lt_of_le (h.ra g e).1 k.size, (h.ra g e).2.below k (u.1 g e)⟩, h.na, h.ei, fun g e => ⟨Nat.lt_of_lt_of_le (h.ri g e).1 k.size, (h.ri g e).2.below k (u.2.1 g e)⟩, h.ni, h.eb, fun g e => ⟨Nat.lt_of_lt_of_le (h.rb g e).1 k.size, (h.rb g e).2.below k (u.2.2.1 g e)⟩, h.nb, h.el, fun g e => ⟨Nat.lt_of_lt_of_le (h.rl g e).1 k.size, (h.rl g e).2.below k (u.2.2.2.1 g e)⟩, h.nl, h.et, fun g e => ⟨Nat.lt_of_lt_of_le (h.rt g e).1 k.size, (h.rt g e).2.below k (u.2.2.2.2 g e)⟩, h.nt⟩
theorem own_kept {W W' : World} {base : Nat} {x : Ix} {g : Nat} (h : OwV W base x) (k : W.grownBy W' (some g)) (hg : g < base) : OwV W' base x :=
  have q : ∀ {e : TypeId} {m : Nat} {v : Value} {n : Nat} {vs : List Value}, W.ownsRow base e m v n vs → W'.ownsRow base e m v n vs := fun o => World.ownsRow.kept o k (by
    rename_i v _ _
    cases hb : v.ownBlock with
    | none => exact .inl rfl
    | some b => exact .inr (fun e => by have := (World.ownsRow.lt o b hb).1; injection e with e; omega))
  ⟨q h.oa, q h.oi, q h.ob, q h.ol, q h.ot⟩
/-- A block that is none of its lists'. -/
theorem not_own {W : World} {base : Nat} {x : Ix} {g : Nat} (h : OwV W base x) (hg : W.heap.size ≤ g) : some g ≠ (.slice x.aa x.b.ac.length x.ca : Value).ownBlock ∧ some g ≠ (.slice x.ai x.b.ic.length x.ci : Value).ownBlock ∧ some g ≠ (.slice x.ab x.b.bs.length x.cb : Value).ownBlock ∧ some g ≠ (.slice x.al x.b.ls.length x.cl : Value).ownBlock ∧ some g ≠ (.slice x.ats x.b.ts.length x.ct : Value).ownBlock :=
  ⟨fun e => by have := (World.ownsRow.lt h.oa g e.symm).2; omega, fun e => by have := (World.ownsRow.lt h.oi g e.symm).2; omega, fun e => by have := (World.ownsRow.lt h.ob g e.symm).2; omega, fun e => by have := (World.ownsRow.lt h.ol g e.symm).2; omega, fun e => by have := (World.ownsRow.lt h.ot g e.symm).2; omega⟩
end Go.Proofs.YtefcigaalgfmiaaGreatDoor.LawR13
namespace Go.Proofs.YtefcigaalgfmiaaGreatDoor.SPut11
open Go.ChangeShapes Go.WideShapes Go.ChangeAt Go.RowKit SBytes
open ByteH (Own At)
/-- Bytes that lie from a place on. -/
def AtO (w : World) (g o : Nat) (xs : List Int) : Prop := ∀ i, i < xs.length → w.cell? ⟨g, o + i, none⟩ = some (.int .u8 (xs.getD i 0))
theorem AtO.of {w : World} {g : Nat} {xs : List Int} (h : At w g xs) : AtO w g 0 xs := fun i hi => by rw [Nat.zero_add]; exact h i hi
theorem one_more (w : World) (o : Obj) : Below w.heap.size w (w.alloc o) := (Below.refl _ _).alloc (Nat.le_refl _) _
end Go.Proofs.YtefcigaalgfmiaaGreatDoor.SPut11
namespace Go.Proofs.YtefcigaalgfmiaaGreatDoor.IRd11
open Go.ChangeShapes Go.WideShapes Go.ChangeAt Go.RowKit SBytes SPut11
/-- The place of a reader: a number in a block of the call's own. -/
abbrev Pl (w : World) (base p : Nat) (x : Int) : Prop := Ints.Own w base p 1 1 [x]
theorem Pl.cell {w : World} {base p : Nat} {x : Int} (h : Pl w base p x) : w.cell? ⟨p, 0, none⟩ = some (.int .i64 x) := h.at 0 (by simp)
theorem pl_box (w : World) (base : Nat) {g : Nat} (x : Int) (hb : base ≤ w.heap.size) (hg : g = w.heap.size) : Pl (w.alloc (.cells #[.int .i64 x] 3)) base g x := by
  subst hg
  exact World.ownsRow_lit w #[.int .i64 x] 1 hb (by decide) rfl
theorem pl_alloc {w : World} {base p : Nat} {x : Int} (h : Pl w base p x) (o : Obj) : Pl (w.alloc o) base p x := World.ownsRow.alloc h o
theorem grow_below {w w1 w2 : World} {row : Option Nat} (h : w.grownBy w1 row) (k : Below w1.heap.size w1 w2) : w.grownBy w2 row :=
  ⟨k.os.trans h.os, k.tape.trans h.tape, k.output.trans h.output, Nat.le_trans h.size k.size, fun i hi hr => (k.block i (Nat.lt_of_lt_of_le hi h.size)).trans (h.block i hi hr)⟩
theorem grow_grow {w w1 w2 : World} {row : Option Nat} (h : w.grownBy w1 row) (k : w1.grownBy w2 row) : w.grownBy w2 row :=
  ⟨k.os.trans h.os, k.tape.trans h.tape, k.output.trans h.output, Nat.le_trans h.size k.size, fun i hi hr => (k.block i (Nat.lt_of_lt_of_le hi h.size) hr).trans (h.block i hi hr)⟩
theorem pl_set {w : World} {base p : Nat} {x : Int} (h : Pl w base p x) (y : Int) : Pl (w.setCell ⟨p, 0, none⟩ (.int .i64 y)) base p y ∧ w.grownBy (w.setCell ⟨p, 0, none⟩ (.int .i64 y)) (some p) := Ints.Own.set h 0 y
set_option maxRecDepth 100000 in
theorem iTake_low (w : World) (gl cl p base n : Nat) (x many : Int) (h : x < 0) (hp : Pl w base p x) :
    Calls Tryz.prog 89 #[.agg #[.slice (some ⟨gl, 0, none⟩) n cl, .pointer (some ⟨p, 0, none⟩)], .int .i64 many] w fun e w' => e = .returned (.tuple #[.slice none 0 0, .bool false]) ∧ Below w.heap.size w w' := by
  have pc := hp.cell
  have pl := hp.lt.2
  clear hp
  go_enter Tryz.func89, Tryz.ntmps89
  go_wp2
  go_ret2
  exact ⟨rfl, one_more _ _⟩
set_option maxRecDepth 100000 in
theorem iTake_no (w : World) (gl cl p base n : Nat) (x many : Int) (h : 0 ≤ x) (hx : x ≤ 9223372036854775807) (hn : n ≤ 1048576) (hm : (n : Int) - x < many) (hp : Pl w base p x) :
    Calls Tryz.prog 89 #[.agg #[.slice (some ⟨gl, 0, none⟩) n cl, .pointer (some ⟨p, 0, none⟩)], .int .i64 many] w fun e w' => e = .returned (.tuple #[.slice none 0 0, .bool false]) ∧ Below w.heap.size w w' := by
  have pc := hp.cell
  have pl := hp.lt.2
  clear hp
  go_enter Tryz.func89, Tryz.ntmps89
  go_wp2
  go_ret2
  exact ⟨rfl, one_more _ _⟩
set_option maxRecDepth 100000 in
theorem iTake_yes (w : World) (gl cl p base n k m : Nat) (hc : n ≤ cl) (hn : n ≤ 1048576) (h1 : 1 ≤ m) (hm : k + m ≤ n) (hp : Pl w base p k) :
    Calls Tryz.prog 89 #[.agg #[.slice (some ⟨gl, 0, none⟩) n cl, .pointer (some ⟨p, 0, none⟩)], .int .i64 m] w fun e w' => ∃ c, e = .returned (.tuple #[.slice (some ⟨gl, k, none⟩) m c, .bool true]) ∧ m ≤ c ∧ Pl w' base p (k + m) ∧ w.grownBy w' (some p) := by
  have pc := hp.cell
  have pl := hp.lt.2
  have pf := hp.free 0
  have PP := hide hp
  have ck : ¬ cl = k := by omega
  clear hp
  go_enter Tryz.func89, Tryz.ntmps89
  go_wp2

  go_region
  go_wp2
  go_ret2
  have e : k + m - k = m := by omega
  obtain ⟨s1, s2⟩ := pl_set (unhide PP) (k + m)
  exact ⟨cl - k, by show Ending.returned (.tuple #[.slice (some ⟨gl, k, none⟩) (k + m - k) (cl - k), .bool true]) = _; rw [e], by omega, pl_alloc s1 _, grow_below s2 (one_more _ _).drew⟩
/-- What a reader's number comes to: as GetNum tells it. -/
def NumSaid (r : Int × Int × Bool) (w : World) (base p : Nat) (e : Ending) (w' : World) : Prop :=
  ∃ v q, e = .returned (.tuple #[.int .i64 v, .bool r.2.2]) ∧ (r.2.2 = true → v = r.1 ∧ q = r.2.1) ∧ Pl w' base p q ∧ w.grownBy w' (some p)
theorem NumSaid.no {w w' : World} {base p : Nat} {e : Ending} (v q : Int) (h : e = .returned (.tuple #[.int .i64 v, .bool false])) (hp : Pl w' base p q) (hg : w.grownBy w' (some p)) : NumSaid (0, 0, false) w base p e w' := ⟨v, q, h, by simp, hp, hg⟩
theorem NumSaid.yes {w w' : World} {base p : Nat} {e : Ending} {v q : Int} (v' q' : Int) (h : e = .returned (.tuple #[.int .i64 v', .bool true])) (hv : v' = v) (hq : q' = q) (hp : Pl w' base p q') (hg : w.grownBy w' (some p)) : NumSaid (v, q, true) w base p e w' := ⟨v', q', h, fun _ => ⟨hv, hq⟩, hp, hg⟩
theorem AtB.grown {w w' : World} {g p : Nat} {xs : List Int} (h : AtB w g xs) (k : w.grownBy w' (some p)) (hg : g < w.heap.size) (hp : g ≠ p) : AtB w' g xs :=
  fun i hi => ⟨(World.cell?_of_block (w := w) (k.block g hg (by simpa using hp))).trans (h i hi).1, (h i hi).2⟩
theorem rd_box (w : World) (a b : Value) : (w.alloc (.cells #[a, b] 75)).cell? ⟨w.heap.size, 0, none⟩ = some a ∧ (w.alloc (.cells #[a, b] 75)).cell? ⟨w.heap.size, 1, none⟩ = some b := by simp
theorem cell_grown {w w' : World} {p : Nat} (k : w.grownBy w' (some p)) {g : Nat} (o : Nat) (hg : g < w.heap.size) (hp : g ≠ p) : w'.cell? ⟨g, o, none⟩ = w.cell? ⟨g, o, none⟩ :=
  World.cell?_of_block (w := w) (k.block g hg (by simpa using hp))
set_option maxRecDepth 100000 in
theorem iNum_low (w : World) (gl cl p base : Nat) (xs : List Int) (x : Int) (h : x < 0) (hp : Pl w base p x) :
    Calls Tryz.prog 73 #[.agg #[.slice (some ⟨gl, 0, none⟩) xs.length cl, .pointer (some ⟨p, 0, none⟩)]] w (NumSaid (getN xs x) w base p) := by
  have e : getN xs x = (0, 0, false) := by unfold getN; rw [if_pos (.inl h)]
  have PP := hide hp
  clear hp
  rw [e]
  go_enter Tryz.func73, Tryz.ntmps73
  go_wp2
  go_loopw [4, 5, 6, 7, 8] (fun _ _ _ _ i wr => i = .int .i64 0 ∧ wr = w.alloc (.cells #[.slice (some ⟨gl, 0, none⟩) xs.length cl, .pointer (some ⟨p, 0, none⟩)] 75)) (fun _ _ _ _ _ _ => 0)
  case atStart => exact ⟨rfl, rfl⟩
  case round =>
    obtain ⟨rfl, rfl⟩ := hrel
    go_wp2_with fail
    refine (iTake_low _ gl cl p base xs.length x 1 h (pl_alloc (unhide PP) _)).mono ?_
    rintro e u ⟨rfl, b1⟩
    have B1 := hide b1
    clear b1
    go_wp2
    go_ret2
    have b := (one_more w _).trans ((unhide B1).mono (by simp))
    exact .no 0 x rfl ((unhide PP).below b (unhide PP).lt.2) (grow_below (World.grownBy.refl _ _) b)
set_option maxRecDepth 100000 in
theorem iNum_far (w : World) (gl cl p base : Nat) (xs : List Int) (x : Int) (h0 : 0 ≤ x) (h : (xs.length : Int) ≤ x) (hx : x ≤ 9223372036854775807) (h20 : xs.length ≤ 1048576) (hp : Pl w base p x) :
    Calls Tryz.prog 73 #[.agg #[.slice (some ⟨gl, 0, none⟩) xs.length cl, .pointer (some ⟨p, 0, none⟩)]] w (NumSaid (getN xs x) w base p) := by
  have e : getN xs x = (0, 0, false) := by unfold getN; rw [if_pos (.inr h)]
  have PP := hide hp
  clear hp
  rw [e]
  go_enter Tryz.func73, Tryz.ntmps73
  go_wp2
  go_loopw [4, 5, 6, 7, 8] (fun _ _ _ _ i wr => i = .int .i64 0 ∧ wr = w.alloc (.cells #[.slice (some ⟨gl, 0, none⟩) xs.length cl, .pointer (some ⟨p, 0, none⟩)] 75)) (fun _ _ _ _ _ _ => 0)
  case atStart => exact ⟨rfl, rfl⟩
  case round =>
    obtain ⟨rfl, rfl⟩ := hrel
    go_wp2_with fail
    refine (iTake_no _ gl cl p base xs.length x 1 h0 hx h20 (by omega) (pl_alloc (unhide PP) _)).mono ?_
    rintro e u ⟨rfl, b1⟩
    have B1 := hide b1
    clear b1
    go_wp2
    go_ret2
    have b := (one_more w _).trans ((unhide B1).mono (by simp))
    exact .no 0 x rfl ((unhide PP).below b (unhide PP).lt.2) (grow_below (World.grownBy.refl _ _) b)
theorem shl_is (d : Int) (k : Nat) (h0 : 0 ≤ d) (h1 : d ≤ 127) (hk : k ≤ 8) : wrap64 (d * 2 ^ (7 * k)) = d * 128 ^ k := by
  have e : (128 : Int) ^ k = 2 ^ (7 * k) := by rw [show (128 : Int) = 2 ^ 7 by decide, ← Int.pow_mul]
  rw [← e]
  have p := pow_le k hk
  have m0 := Int.mul_nonneg h0 (Int.le_trans (by decide) p.1)
  have m1 := Int.mul_le_mul_of_nonneg_right h1 (Int.le_trans (by decide) p.1)
  rw [wrap64]
  omega
theorem or_is (v d : Int) (k : Nat) (hk : k ≤ 8) (h0 : 0 ≤ d) (h1 : d ≤ 127) (v0 : 0 ≤ v) (v1 : v < 128 ^ k) : bits .or .i64 v (d * 128 ^ k) = v + d * 128 ^ k := by
  have e : (128 : Int) ^ k = 2 ^ (7 * k) := by rw [show (128 : Int) = 2 ^ 7 by decide, ← Int.pow_mul]
  have p := pow_le k hk
  have m0 := Int.mul_nonneg h0 (Int.le_trans (by decide) p.1)
  have m1 := Int.mul_le_mul_of_nonneg_right h1 (Int.le_trans (by decide) p.1)
  refine bits_join_low .i64 63 (by decide) (fun n a b => by rw [IntKind.wrap_i64]; omega) (7 * k) v _ v0 (by rw [← e]; exact v1) (by omega) m0 ?_ (by omega)
  rw [e]
  exact Int.mul_emod_left _ _
set_option maxRecDepth 100000 in
set_option maxHeartbeats 4000000 in
theorem iNum_in (w : World) (gl cl p base : Nat) (xs : List Int) (n : Nat) (h : n < xs.length) (h20 : xs.length ≤ 1048576) (hc : xs.length ≤ cl) (hg : gl < base) (hr : AtB w gl xs) (hp : Pl w base p n) :
    Calls Tryz.prog 73 #[.agg #[.slice (some ⟨gl, 0, none⟩) xs.length cl, .pointer (some ⟨p, 0, none⟩)]] w (NumSaid (getN xs n) w base p) := by
  have E0 := hide (show getN xs n = getF xs n 9 0 from by unfold getN; rw [if_neg (by omega)]; simp)
  generalize getN xs n = r at *
  obtain ⟨r0, r1, r2⟩ := r
  obtain ⟨l0, l1⟩ := hp.lt
  have G0 := hide (show w.grownBy (w.alloc (.cells #[.slice (some ⟨gl, 0, none⟩) xs.length cl, .pointer (some ⟨p, 0, none⟩)] 75)) (some p) from grow_below (World.grownBy.refl _ _) (one_more _ _))
  have C0 := hide (rd_box w (.slice (some ⟨gl, 0, none⟩) xs.length cl) (.pointer (some ⟨p, 0, none⟩)))
  have P0 := hide (show Pl (w.alloc (.cells #[.slice (some ⟨gl, 0, none⟩) xs.length cl, .pointer (some ⟨p, 0, none⟩)] 75)) base p ((n + (0 : Nat) : Nat) : Int) from pl_alloc hp _)
  have R := hide hr
  have S0 := hide (show w.heap.size + 1 ≤ (w.alloc (.cells #[.slice (some ⟨gl, 0, none⟩) xs.length cl, .pointer (some ⟨p, 0, none⟩)] 75)).heap.size from by simp)
  clear hr hp
  go_enter Tryz.func73, Tryz.ntmps73
  go_wp2
  go_loopw [4, 5, 6, 7, 8] (fun a _ _ _ i wr => ∃ (k : Nat) (v : Int), k ≤ 9 ∧ i = .int .i64 k ∧ a = .int .i64 v ∧ Hid (v = val xs n k) ∧ Hid ((r0, r1, r2) = getF xs n (9 - k) k) ∧ Hid (Pl wr base p ((n + k : Nat) : Int)) ∧ Hid (w.grownBy wr (some p)) ∧ Hid (wr.cell? ⟨w.heap.size, 0, none⟩ = some (.slice (some ⟨gl, 0, none⟩) xs.length cl) ∧ wr.cell? ⟨w.heap.size, 1, none⟩ = some (.pointer (some ⟨p, 0, none⟩))) ∧ Hid (w.heap.size + 1 ≤ wr.heap.size)) (fun _ _ _ _ i _ => 9 - (intOf i).toNat)
  case atStart => exact ⟨0, 0, by omega, rfl, rfl, rfl, E0, P0, G0, C0, S0⟩
  case round =>
    clear E0 P0 G0 C0 S0
    obtain ⟨k, v, hk, rfl, rfl, HV, HE, HP, HG, HC, HS⟩ := hrel
    have bs := unhide HS
    obtain ⟨c0, c1⟩ := unhide HC
    by_cases t : k < 9
    case neg =>
      have e : k = 9 := by omega
      subst e
      have F : (r0, r1, r2) = (0, 0, false) := unhide HE
      injection F with F0 F
      injection F with F1 F2
      subst F0 F1 F2
      clear HE
      go_wp2
      go_ret2
      exact .no 0 _ rfl (unhide HP) (unhide HG)
    have F := unhide HE
    rw [show 9 - k = (8 - k) + 1 by omega] at F
    simp only [getF] at F
    have HF := hide F
    clear HE F
    have k9 : (k : Int) < 9 := by omega
    by_cases q : n + k < xs.length
    case neg =>
      have F := unhide HF
      rw [if_neg q] at F
      injection F with F0 F
      injection F with F1 F2
      subst F0 F1 F2
      clear HF
      go_wp2_with fail
      refine (iTake_no _ gl cl p base xs.length _ 1 (by omega) (by omega) h20 (by omega) (unhide HP)).mono ?_
      rintro e u ⟨rfl, b1⟩
      have B1 := hide b1
      clear b1
      go_wp2
      go_ret2
      exact .no 0 _ rfl ((unhide HP).below (unhide B1) (unhide HP).lt.2) (grow_below (unhide HG) (unhide B1))
    obtain ⟨_, d0, d1⟩ := (unhide R) (n + k) q
    have vi := val_in xs n k
    rw [← unhide HV] at vi
    have SO := hide (show bits .or .i64 v (wrap64 (xs.getD (n + k) 0 % 128 * 2 ^ (7 * k))) = val xs n (k + 1) from by
      rw [shl_is _ k (by omega) (by omega) (by omega), or_is v _ k (by omega) (by omega) (by omega) vi.1 vi.2, unhide HV]; rfl)
    clear vi
    have VI := hide (val_in xs n (k + 1))
    go_wp2_with fail
    refine (iTake_yes _ gl cl p base xs.length (n + k) 1 hc h20 (by omega) (by omega) (unhide HP)).mono ?_
    rintro e u ⟨c, rfl, hc1, p1, g1⟩
    have P1 := hide p1
    have G1 := hide (grow_grow (unhide HG) g1)
    have D := hide ((AtB.grown (unhide R) (unhide G1) (by omega) (by omega)) (n + k) q)
    have C1 := hide (And.intro ((cell_grown g1 0 bs (by omega)).trans c0) ((cell_grown g1 1 bs (by omega)).trans c1))
    have us := g1.size
    clear p1 g1
    obtain ⟨dc, _⟩ := unhide D
    have F := unhide HF
    rw [if_pos q] at F
    clear HF D VI HC c0 c1 HP HG HS
    generalize xs.getD (n + k) 0 = d at *
    by_cases m : d < 128
    · rw [if_pos m] at F
      by_cases z : d = 0
      · subst z
        by_cases k0 : k = 0
        · have kb : ((k : Int) == 0) = true := by simp [k0]
          rw [if_neg (by omega)] at F
          injection F with F0 F
          injection F with F1 F2
          subst F0 F1 F2
          have K0 := hide k0
          clear k0
          go_wp2
          go_ret2
          exact .yes _ _ rfl (by simpa [wrap64] using unhide SO) (by simp) (unhide P1) (unhide G1)
        · have kb : ((k : Int) == 0) = false := by simp [k0]
          rw [if_pos (by omega)] at F
          injection F with F0 F
          injection F with F1 F2
          subst F0 F1 F2
          have K0 := hide k0
          clear k0
          go_wp2
          go_ret2
          exact .no _ _ rfl (unhide P1) (unhide G1)
      · rw [if_neg (by omega)] at F
        injection F with F0 F
        injection F with F1 F2
        subst F0 F1 F2
        go_wp2
        go_ret2
        exact .yes _ _ rfl (unhide SO) (by simp) (unhide P1) (unhide G1)
    · rw [if_neg m] at F
      have HF := hide F
      clear F
      go_wp2
      go_roundw
      case rel => exact ⟨k + 1, _, by omega, by go_num, rfl, SO, by rw [show 9 - (k + 1) = 8 - k by omega]; exact HF, hide (by have := unhide P1; rw [show ((n + (k + 1) : Nat) : Int) = ((n + k : Nat) : Int) + ((1 : Nat) : Int) by omega]; exact this), G1, C1, hide (by omega)⟩
      case measure => simp [intOf]; omega
/-- The number that a reader tells. -/
theorem iNum (w : World) (gl cl p base : Nat) (xs : List Int) (x : Int) (hx : x ≤ 9223372036854775807) (h20 : xs.length ≤ 1048576) (hc : xs.length ≤ cl) (hg : gl < base) (hr : AtB w gl xs) (hp : Pl w base p x) :
    Calls Tryz.prog 73 #[.agg #[.slice (some ⟨gl, 0, none⟩) xs.length cl, .pointer (some ⟨p, 0, none⟩)]] w (NumSaid (getN xs x) w base p) := by
  by_cases h0 : x < 0
  · exact iNum_low w gl cl p base xs x h0 hp
  by_cases h1 : (xs.length : Int) ≤ x
  · exact iNum_far w gl cl p base xs x (by omega) h1 hx h20 hp
  obtain ⟨n, rfl⟩ : ∃ n : Nat, x = n := ⟨x.toNat, by omega⟩
  exact iNum_in w gl cl p base xs n (by omega) h20 hc hg hr hp
end Go.Proofs.YtefcigaalgfmiaaGreatDoor.IRd11
namespace Go.Proofs.YtefcigaalgfmiaaGreatDoor.SPuts11
open Go.ChangeShapes Go.WideShapes Go.ChangeAt Go.RowKit SBytes SPut11
open ByteH (Own At)
theorem own_of_rowI {w : World} {base n n' : Nat} {v : Value} {vs : List Value} {xs : List Int} (h : w.ownsRow base 3 1 v n vs) (hn : n = n') (e : vs = xs.map (Value.int .i64)) (hv : ¬ v = .slice none 0 0) :
    ∃ g c, v = .slice (some ⟨g, 0, none⟩) n' c ∧ Ints.Own w base g n' c xs := by
  subst hn e
  have h' := h
  rcases h.2 with ⟨h1, _⟩ | ⟨g, c, cur, rfl, _⟩
  · exact absurd h1 hv
  · exact ⟨g, c, rfl, h'⟩
theorem own_allocI {w : World} {base g n cap : Nat} {xs : List Int} (h : Ints.Own w base g n cap xs) (o : Obj) : Ints.Own (w.alloc o) base g n cap xs := World.ownsRow.alloc h o
theorem lit0I (w : World) (base : Nat) {g : Nat} (hb : base ≤ w.heap.size) (hg : g = w.heap.size) : Ints.Own (w.alloc (.cells #[] 3)) base g 0 0 [] := by
  subst hg
  exact World.ownsRow_lit w #[] 0 hb (by decide) rfl
/-- A number appended to a list of numbers. -/
theorem wp_appI (u : World) {ops : Array Oper} {rest : List Oper} {o : Oper} {a : Act} {Q : Exit → Act → World → Prop} (hgd : o.guard = none) (s x : Operand)
    (ho : o.op = .call { callee := .builtin .append, args := #[s, x], argTypes := #[38, 38] }) (base g n cap : Nat) (xs : List Int) (vb : Nat) (y : Int)
    (hs : a.eval s = .slice (some ⟨g, 0, none⟩) n cap) (hx : a.eval x = .slice (some ⟨vb, 0, none⟩) 1 1) (hown : Ints.Own u base g n cap xs) (hv : u.cell? ⟨vb, 0, none⟩ = some (.int .i64 y)) (hn : n ≤ 1048576) (hb : base ≤ u.heap.size)
    (h : ∀ g' c' w', Ints.Own w' base g' (n + 1) c' (xs ++ [y]) → u.grownBy w' (some g) → (g' = g ∨ g' = u.heap.size) → wpList Tryz.prog ops Q rest (a.put o.dst (.slice (some ⟨g', 0, none⟩) (n + 1) c')) w') : wpList Tryz.prog ops Q (o :: rest) a u := by
  obtain ⟨i0, hi, hz0, hz1, hz2⟩ := info_parts Ints.info3
  refine wpList_append_own_at u hgd s x 38 ho base 3 i0 (.int .i64 0) 1 8 Tryz.underlying38 hi hz0 hz1 hz2 rfl (by decide) _ n _ hs hown ⟨vb, 0, none⟩ 1 1 [.int .i64 y] hx rfl (fun j v hj => by
    cases j with
    | zero =>
      have e : v = .int .i64 y := by simpa using hj.symm
      rw [e]
      simpa [Addr.add] using hv
    | succ j => simp at hj) (by simp [Value.oneCell']) (by unfold maxLen; omega) (by omega) hb ?_
  intro v' w' own' gr' nil' loc'
  obtain ⟨g', c', rfl, o'⟩ := own_of_rowI (n' := n + 1) (xs := xs ++ [y]) own' rfl (by simp) (by rw [nil']; simp)
  exact h g' c' w' o' gr' (by simpa [Value.ownBlock] using loc')
/-- Numbers read one behind the other: those read, the place then, and whether all were there. -/
def gets (xs : List Int) : Nat → Int → List Int → List Int × Int × Bool
  | 0, p, l => (l, p, true)
  | m + 1, p, l => if (getN xs p).2.2 = true then gets xs m (getN xs p).2.1 (l ++ [(getN xs p).1]) else ([], 0, false)
/-- What GetNums answers. -/
def getsN (xs : List Int) (p many : Int) : List Int × Int × Bool :=
  if (0 ≤ many ∧ many ≤ 2000) ∧ 0 ≤ p ∧ p ≤ xs.length then gets xs many.toNat p [] else ([], 0, false)
end Go.Proofs.YtefcigaalgfmiaaGreatDoor.SPuts11
namespace Go.Proofs.YtefcigaalgfmiaaGreatDoor.SGets11
open Go.ChangeShapes Go.WideShapes Go.ChangeAt Go.RowKit SBytes SPut11 SPuts11
/-- Whether a number lies between two others. -/
theorem l1In_yes (w : World) (x lo hi : Int) (h0 : lo ≤ x) (h1 : x ≤ hi) : Calls Tryz.prog 38 #[.int .i64 x, .int .i64 lo, .int .i64 hi] w fun e w' => e = .returned (.bool true) ∧ w' = w := by
  go_enter Tryz.func38, Tryz.ntmps38
  go_wp2
  go_ret
  exact ⟨rfl, rfl⟩
theorem l1In_no (w : World) (x lo hi : Int) (h : ¬ (lo ≤ x ∧ x ≤ hi)) : Calls Tryz.prog 38 #[.int .i64 x, .int .i64 lo, .int .i64 hi] w fun e w' => e = .returned (.bool false) ∧ w' = w := by
  by_cases h0 : lo ≤ x
  · have h1 : ¬ x ≤ hi := fun r => h ⟨h0, r⟩
    clear h
    go_enter Tryz.func38, Tryz.ntmps38
    go_wp2
    go_ret
    exact ⟨rfl, rfl⟩
  · clear h
    go_enter Tryz.func38, Tryz.ntmps38
    go_wp2
    go_ret
    exact ⟨rfl, rfl⟩
set_option maxRecDepth 100000 in
set_option maxHeartbeats 4000000 in
theorem sGetNums (w : World) (gl cl : Nat) (xs : List Int) (p0 many : Int) (h20 : xs.length ≤ 1048576) (hg : gl < w.heap.size) (hr : AtB w gl xs) :
    Calls Tryz.prog 32 #[.slice (some ⟨gl, 0, none⟩) xs.length cl, .int .i64 p0, .int .i64 many] w fun e w' => ∃ g c, e = .returned (.tuple #[.slice (some ⟨g, 0, none⟩) (getsN xs p0 many).1.length c, .int .i64 (getsN xs p0 many).2.1, .bool (getsN xs p0 many).2.2]) ∧ Ints.Own w' w.heap.size g (getsN xs p0 many).1.length c (getsN xs p0 many).1 ∧ Below w.heap.size w w' := by
  have O0 := hide (lit0I w w.heap.size (Nat.le_refl _) rfl)
  have B0 := hide (one_more w (.cells #[] 3))
  have R := hide hr
  have HG := hide hg
  clear hr hg
  by_cases m0 : 0 ≤ many ∧ many ≤ 2000
  case neg =>
    have e : getsN xs p0 many = ([], 0, false) := if_neg (fun h => m0 h.1)
    rw [e]
    have M := hide m0
    clear e m0
    go_enter Tryz.func32, Tryz.ntmps32
    go_wp2_with fail
    refine (l1In_no _ _ _ _ (unhide M)).mono ?_
    rintro e u ⟨rfl, rfl⟩
    go_wp2
    go_ret3
    exact ⟨_, 0, rfl, unhide O0, unhide B0⟩
  by_cases q0 : 0 ≤ p0 ∧ p0 ≤ xs.length
  case neg =>
    have e : getsN xs p0 many = ([], 0, false) := if_neg (fun h => q0 h.2)
    rw [e]
    have M := hide m0
    have Q := hide q0
    clear e m0 q0
    go_enter Tryz.func32, Tryz.ntmps32
    go_wp2_with fail
    refine (l1In_yes _ _ _ _ (unhide M).1 (unhide M).2).mono ?_
    rintro e u ⟨rfl, rfl⟩
    go_wp2_with fail
    refine (l1In_no _ _ _ _ (unhide Q)).mono ?_
    rintro e u ⟨rfl, rfl⟩
    go_wp2
    go_ret3
    exact ⟨_, 0, rfl, unhide O0, unhide B0⟩
  obtain ⟨n, rfl⟩ : ∃ n : Nat, many = n := ⟨many.toNat, by omega⟩
  have E0 := hide (show getsN xs p0 n = gets xs n p0 [] from by unfold getsN; rw [if_pos ⟨m0, q0⟩]; simp)
  have n2 : n ≤ 2000 := by omega
  have M := hide m0
  have Q := hide q0
  clear m0 q0
  generalize getsN xs p0 n = r at *
  obtain ⟨r0, r1, r2⟩ := r
  go_enter Tryz.func32, Tryz.ntmps32
  go_wp2_with fail
  refine (l1In_yes _ _ _ _ (unhide M).1 (unhide M).2).mono ?_
  rintro e u ⟨rfl, rfl⟩
  go_wp2_with fail
  refine (l1In_yes _ _ _ _ (unhide Q).1 (unhide Q).2).mono ?_
  rintro e u ⟨rfl, rfl⟩
  go_wp2
  clear M Q
  go_loopw [1, 9, 10] (fun a l i wr => ∃ (p : Int) (q : List Int) (g c k : Nat), a = .int .i64 p ∧ l = .slice (some ⟨g, 0, none⟩) q.length c ∧ i = .int .i64 k ∧ k ≤ n ∧ q.length ≤ k ∧ Hid ((r0, r1, r2) = gets xs (n - k) p q) ∧ Hid (Ints.Own wr w.heap.size g q.length c q) ∧ Hid (Below w.heap.size w wr)) (fun _ _ i _ => n - (intOf i).toNat)
  case atStart => exact ⟨p0, [], w.heap.size, 0, 0, rfl, rfl, rfl, by omega, by simp, E0, O0, B0⟩
  case round =>
    clear O0 B0 E0
    obtain ⟨p, q, g, c, k, rfl, rfl, rfl, hk, ql, HE, HO, HB⟩ := hrel
    have bs := (unhide HB).size
    have og := (unhide HO).lt
    by_cases t : k < n
    · have NX := hide (show (r0, r1, r2) = if (getN xs p).2.2 = true then gets xs (n - (k + 1)) (getN xs p).2.1 (q ++ [(getN xs p).1]) else ([], 0, false) from by
        rw [unhide HE, show n - k = (n - (k + 1)) + 1 by omega]
        rfl)
      have kn : (k : Int) < n := by omega
      clear HE
      go_wp2_with fail
      refine (sGetNum _ gl cl xs p h20 (AtB.below (unhide R) (unhide HB) (unhide HG))).mono ?_
      rintro e u ⟨rfl, rfl⟩
      generalize getN xs p = y at *
      obtain ⟨y0, y1, y2⟩ := y
      cases y2 with
      | false =>
        have F := unhide NX
        rw [if_neg (by simp)] at F
        injection F with F0 F
        injection F with F1 F2
        subst F0 F1 F2
        have O5 := hide (lit0I u w.heap.size bs rfl)
        have B5 := hide ((unhide HB).alloc bs (.cells #[] 3))
        clear NX
        go_wp2
        go_ret3
        exact ⟨_, 0, rfl, unhide O5, unhide B5⟩
      | true =>
        have N1 := hide (show (r0, r1, r2) = gets xs (n - (k + 1)) y1 (q ++ [y0]) from by rw [unhide NX, if_pos rfl])
        clear NX
        go_wp2_with (first | (at_builtin; refine wp_appI _ rfl _ _ rfl w.heap.size g q.length c q u.heap.size y0 rfl rfl (own_allocI (unhide HO) _) (by simp) (by omega) (by simp; omega) ?_) | go_in)
        intro g5 c5 w5 o5 gr5 loc5
        have O5 := hide o5
        have B5 := hide (((unhide HB).alloc (by omega) (.cells #[.int .i64 y0] 3)).grown gr5 (by simp; omega) (fun j hj => by cases hj; exact og.1))
        clear o5 gr5 loc5
        go_wp2
        go_roundw
        case rel => exact ⟨y1, q ++ [y0], g5, c5, k + 1, rfl, by rw [show (q ++ [y0]).length = q.length + 1 by simp], by go_num, by omega, by simp; omega, N1, hide (by rw [show (q ++ [y0]).length = q.length + 1 by simp]; exact unhide O5), B5⟩
        case measure => simp [intOf]; omega
    · have e : k = n := by omega
      subst e
      have F := unhide HE
      rw [Nat.sub_self] at F
      simp only [gets] at F
      injection F with F0 F
      injection F with F1 F2
      subst F0 F1 F2
      clear HE
      go_wp2
      go_ret3
      exact ⟨g, c, rfl, unhide HO, unhide HB⟩
end Go.Proofs.YtefcigaalgfmiaaGreatDoor.SGets11
namespace Go.Proofs.YtefcigaalgfmiaaGreatDoor.VOI
open Go.ChangeShapes Go.WideShapes Go.ChangeAt Go.RowKit
open Ints (Own At)
/-- A list of the call's own, from block number base on; nil where it is empty, perhaps. -/
def Ob (w : World) (base : Nat) (a : Option Addr) (n cap : Nat) (xs : List Int) : Prop := w.ownsRow base 3 1 (.slice a n cap) n (xs.map (Value.int .i64))
theorem Ob.of {w : World} {base g n cap : Nat} {xs : List Int} (h : Own w base g n cap xs) : Ob w base (some ⟨g, 0, none⟩) n cap xs := h
theorem Ob.nil (w : World) (base : Nat) : Ob w base none 0 0 [] := World.ownsRow_nil w base _ _
section
variable {w w' : World} {base n cap : Nat} {a : Option Addr} {xs : List Int}
theorem Ob.len (h : Ob w base a n cap xs) : xs.length = n := by have := h.1; simpa using this
theorem Ob.either (h : Ob w base a n cap xs) : (a = none ∧ n = 0 ∧ xs = []) ∨ ∃ g, a = some ⟨g, 0, none⟩ ∧ Own w base g n cap xs := by
  have hl := h.len
  rcases h.2 with ⟨h1, _⟩ | ⟨g, c, cur, h1, _⟩
  · have : a = none ∧ n = 0 ∧ cap = 0 := by simpa using h1
    obtain ⟨rfl, rfl, rfl⟩ := this
    exact .inl ⟨rfl, rfl, List.eq_nil_of_length_eq_zero hl⟩
  · have : a = some ⟨g, 0, none⟩ ∧ cap = c := by simpa using h1
    obtain ⟨rfl, rfl⟩ := this
    exact .inr ⟨g, rfl, h⟩
/-- Its block lies between two numbers. -/
def Btw (lo hi : Nat) (a : Option Addr) : Prop := ∀ x, a = some x → lo ≤ x.block ∧ x.block < hi
theorem Ob.btw (h : Ob w base a n cap xs) : Btw base w.heap.size a := by
  intro x hx
  rcases h.either with ⟨rfl, _⟩ | ⟨g, rfl, o⟩
  · cases hx
  · cases hx; exact o.lt
theorem Btw.mono {lo hi lo' hi' : Nat} (h : Btw lo hi a) (h1 : lo' ≤ lo) (h2 : hi ≤ hi') : Btw lo' hi' a := fun x hx => ⟨Nat.le_trans h1 (h x hx).1, Nat.lt_of_lt_of_le (h x hx).2 h2⟩
theorem Ob.mono {base' : Nat} (h : Ob w base a n cap xs) (hb : base' ≤ base) : Ob w base' a n cap xs := by
  rcases h.either with ⟨rfl, rfl, rfl⟩ | ⟨g, rfl, o⟩
  · refine ⟨h.1, ?_⟩
    rcases h.2 with h | ⟨g, c, cur, h1, _⟩
    · exact .inl h
    · simp at h1
  · exact o.mono hb
theorem Ob.below {B : Nat} (h : Ob w base a n cap xs) (k : Below B w w') (hb : Btw 0 B a) : Ob w' base a n cap xs := by
  rcases h.either with ⟨rfl, rfl, rfl⟩ | ⟨g, rfl, o⟩
  · refine ⟨h.1, ?_⟩
    rcases h.2 with h | ⟨g, c, cur, h1, _⟩
    · exact .inl h
    · simp at h1
  · exact o.below k (hb _ rfl).2
theorem Ob.step (h : Ob w base a n cap xs) (k : Below w.heap.size w w') : Ob w' base a n cap xs := h.below k (h.btw.mono (Nat.zero_le _) (Nat.le_refl _))
theorem Ob.kept {row : Option Nat} (h : Ob w base a n cap xs) (k : w.grownBy w' row) (hr : ∀ x, a = some x → some x.block ≠ row) : Ob w' base a n cap xs := by
  rcases h.either with ⟨rfl, rfl, rfl⟩ | ⟨g, rfl, o⟩
  · refine ⟨h.1, ?_⟩
    rcases h.2 with h | ⟨g, c, cur, h1, _⟩
    · exact .inl h
    · simp at h1
  · exact o.kept k (hr _ rfl)
end
/-- What is read of it. -/
def Rd (w : World) (a : Option Addr) (xs : List Int) : Prop := xs = [] ∨ ∃ g, a = some ⟨g, 0, none⟩ ∧ g < w.heap.size ∧ At w g xs
theorem Ob.rd {w : World} {base n cap : Nat} {a : Option Addr} {xs : List Int} (h : Ob w base a n cap xs) : Rd w a xs := by
  rcases h.either with ⟨rfl, rfl, rfl⟩ | ⟨g, rfl, o⟩
  · exact .inl rfl
  · exact .inr ⟨g, rfl, o.lt.2, o.at⟩
theorem Rd.below {w w' : World} {a : Option Addr} {xs : List Int} (h : Rd w a xs) (k : Below w.heap.size w w') : Rd w' a xs := by
  rcases h with h | ⟨g, e, hl, hc⟩
  · exact .inl h
  · exact .inr ⟨g, e, Nat.lt_of_lt_of_le hl k.size, hc.below k hl⟩
end Go.Proofs.YtefcigaalgfmiaaGreatDoor.VOI
namespace Go.Proofs.YtefcigaalgfmiaaGreatDoor.IGets11
open Go.ChangeShapes Go.WideShapes Go.ChangeAt Go.RowKit SBytes SPut11 SPuts11 IRd11
theorem getN_next (xs : List Int) (x : Int) (h20 : xs.length ≤ 1048576) (h : (getN xs x).2.2 = true) : (getN xs x).2.1 ≤ 9223372036854775807 := by
  have : ∀ f k, (getF xs x.toNat f k).2.2 = true → (getF xs x.toNat f k).2.1 ≤ xs.length := by
    intro f
    induction f with
    | zero => intro k; simp [getF]
    | succ f ih =>
      intro k h
      simp only [getF] at h ⊢
      by_cases a : x.toNat + k < xs.length
      · rw [if_pos a] at h ⊢
        by_cases b : xs.getD (x.toNat + k) 0 < 128
        · rw [if_pos b] at h ⊢
          by_cases c : xs.getD (x.toNat + k) 0 = 0 ∧ 0 < k
          · rw [if_pos c] at h; simp at h
          · rw [if_neg c]; simp only; omega
        · rw [if_neg b] at h ⊢
          exact ih (k + 1) h
      · rw [if_neg a] at h; simp at h
  unfold getN at h ⊢
  by_cases a : x < 0 ∨ (xs.length : Int) ≤ x
  · rw [if_pos a]; simp
  · rw [if_neg a] at h ⊢
    have := this 9 0 h
    omega
end Go.Proofs.YtefcigaalgfmiaaGreatDoor.IGets11
namespace Go.Proofs.YtefcigaalgfmiaaGreatDoor.Errs
open Go.ChangeShapes Go.WideShapes Go.ChangeAt Go.RowKit Go.Extern.Stop Go.Stop Go.Extern
open Triples (hide unhide)
/-- The first n variables are errors of errors.New's make, at places of their own below N. -/
structure Errs (w : World) (n N : Nat) (a : Nat → Addr) : Prop where
  v : ∀ k, k < n → w.cell? ⟨k, 0, none⟩ = some (.iface 161 (.pointer (some (a k))))
  lt : ∀ k, k < n → k < N ∧ (a k).block < N
  ne : ∀ j k, j < n → k < n → j ≠ k → a j ≠ a k
  row : ∀ k, k < n → ∃ c t, w.heap[(a k).block]? = some (.cells c t (0, 0))
theorem Errs.below {w w' : World} {n N M : Nat} {a : Nat → Addr} (h : Errs w n N a) (b : Below M w w') (hM : N ≤ M) : Errs w' n N a :=
  ⟨fun k hk => (b.cell (p := ⟨k, 0, none⟩) (Nat.lt_of_lt_of_le (h.lt k hk).1 hM)).trans (h.v k hk), h.lt, h.ne, fun k hk => by
    obtain ⟨c, t, e⟩ := h.row k hk
    exact ⟨c, t, (b.block _ (Nat.lt_of_lt_of_le (h.lt k hk).2 hM)).trans e⟩⟩
theorem Errs.drew {w : World} {n N : Nat} {a : Nat → Addr} (h : Errs w n N a) : Errs w.drew n N a := ⟨h.v, h.lt, h.ne, h.row⟩
theorem Errs.grown {w w' : World} {n N g : Nat} {a : Nat → Addr} (h : Errs w n N a) (b : w.grownBy w' (some g)) (hg : N ≤ g) : Errs w' n N a :=
  ⟨fun k hk => b.cell (h.v k hk) (fun e => by injection e with e; have := (h.lt k hk).1; simp at e; omega), h.lt, h.ne, fun k hk => by
    obtain ⟨c, t, e⟩ := h.row k hk
    exact ⟨c, t, (b.block _ (by have := Array.getElem?_eq_some_iff.1 e; obtain ⟨q, _⟩ := this; exact q) (fun e => by injection e with e; have := (h.lt k hk).2; omega)).trans e⟩⟩
/-- What stands for a code among errors. -/
def IsRef (a : Nat → Addr) (c : Int) (v : Value) : Prop :=
  (c = 0 ∧ v = .nilIface) ∨ (c = 3 ∧ v = .iface 161 (.pointer (some (a 1)))) ∨ (c = 6 ∧ v = .iface 161 (.pointer (some (a 2)))) ∨ (c = 5 ∧ v = .iface 161 (.pointer (some (a 4)))) ∨ (c = 7 ∧ v = .iface 161 (.pointer (some (a 0)))) ∨ (c = 8 ∧ v = .iface 161 (.pointer (some (a 3))))
/-- The place of a code among the errors. -/
def plc (c : Int) : Nat := if c = 3 then 1 else if c = 6 then 2 else if c = 5 then 4 else if c = 7 then 0 else 3
theorem IsRef.at {a : Nat → Addr} {c : Int} {v : Value} (h : IsRef a c v) : (v = .nilIface ∧ c = 0) ∨ (plc c < 5 ∧ v = .iface 161 (.pointer (some (a (plc c)))) ∧ (c = 3 ∨ c = 6 ∨ c = 5 ∨ c = 7 ∨ c = 8)) := by
  rcases h with ⟨rfl, rfl⟩ | ⟨rfl, rfl⟩ | ⟨rfl, rfl⟩ | ⟨rfl, rfl⟩ | ⟨rfl, rfl⟩ | ⟨rfl, rfl⟩
  · exact .inl ⟨rfl, rfl⟩
  · exact .inr ⟨by decide, rfl, by omega⟩
  · exact .inr ⟨by decide, rfl, by omega⟩
  · exact .inr ⟨by decide, rfl, by omega⟩
  · exact .inr ⟨by decide, rfl, by omega⟩
  · exact .inr ⟨by decide, rfl, by omega⟩
end Go.Proofs.YtefcigaalgfmiaaGreatDoor.Errs
namespace Go.Proofs.YtefcigaalgfmiaaGreatDoor.IInto13
open Go.ChangeShapes Go.WideShapes Go.ChangeAt Go.RowKit SBytes SPut11 SPuts11 IRd11
open IGets11 (getN_next)
/-- Places that point to the first cells of a block. -/
def Ptr (w : World) (g p n : Nat) : Prop := ∀ i, i < n → w.cell? ⟨g, i, none⟩ = some (.pointer (some ⟨p, i, none⟩))
/-- As it was, but for two blocks and what is new. -/
structure Gr2 (w w' : World) (a b : Nat) : Prop where
  os : w'.os = w.os
  tape : w'.tape = w.tape
  output : w'.output = w.output
  size : w.heap.size ≤ w'.heap.size
  block : ∀ i, i < w.heap.size → i ≠ a → i ≠ b → w'.heap[i]? = w.heap[i]?
section
variable {w w1 w2 : World} {a b : Nat}
theorem Gr2.refl (w : World) (a b : Nat) : Gr2 w w a b := ⟨rfl, rfl, rfl, Nat.le_refl _, fun _ _ _ _ => rfl⟩
theorem Gr2.first (h : Gr2 w w1 a b) (k : w1.grownBy w2 (some a)) : Gr2 w w2 a b :=
  ⟨k.os.trans h.os, k.tape.trans h.tape, k.output.trans h.output, Nat.le_trans h.size k.size, fun i hi h1 h2 => (k.block i (Nat.lt_of_lt_of_le hi h.size) (by simpa using h1)).trans (h.block i hi h1 h2)⟩
theorem Gr2.second (h : Gr2 w w1 a b) (k : w1.grownBy w2 (some b)) : Gr2 w w2 a b :=
  ⟨k.os.trans h.os, k.tape.trans h.tape, k.output.trans h.output, Nat.le_trans h.size k.size, fun i hi h1 h2 => (k.block i (Nat.lt_of_lt_of_le hi h.size) (by simpa using h2)).trans (h.block i hi h1 h2)⟩
theorem Gr2.step (h : Gr2 w w1 a b) (k : Below w1.heap.size w1 w2) : Gr2 w w2 a b :=
  ⟨k.os.trans h.os, k.tape.trans h.tape, k.output.trans h.output, Nat.le_trans h.size k.size, fun i hi h1 h2 => (k.block i (Nat.lt_of_lt_of_le hi h.size)).trans (h.block i hi h1 h2)⟩
theorem Gr2.to {B : Nat} (h : Gr2 w w1 a b) (hB : B ≤ w.heap.size) (ha : B ≤ a) (hb : B ≤ b) : Below B w w1 :=
  ⟨h.os, h.tape, h.output, h.size, fun i hi => h.block i (by omega) (by omega) (by omega)⟩
theorem Gr2.cell (h : Gr2 w w1 a b) {g : Nat} (o : Nat) (hg : g < w.heap.size) (h1 : g ≠ a) (h2 : g ≠ b) : w1.cell? ⟨g, o, none⟩ = w.cell? ⟨g, o, none⟩ :=
  World.cell?_of_block (w := w) (h.block g hg h1 h2)
end
/-- A struct of the call's own. -/
def Tg (w : World) (base t m d : Nat) (vs : List Value) : Prop := w.ownsRow base t m (.slice (some ⟨d, 0, none⟩) 1 1) 1 vs
section
variable {w w' : World} {base t m d : Nat} {vs : List Value}
theorem Tg.lt (h : Tg w base t m d vs) : base ≤ d ∧ d < w.heap.size := World.ownsRow.lt h d rfl
theorem Tg.free (h : Tg w base t m d vs) (i : Nat) : w.frozen? ⟨d, i, none⟩ = false := World.ownsRow.frozenAt h i
theorem Tg.len (h : Tg w base t m d vs) : vs.length = m := by have := h.1; simpa using this
theorem Tg.at (h : Tg w base t m d vs) {i : Nat} {v : Value} (hi : vs[i]? = some v) : w.cell? ⟨d, i, none⟩ = some v := by
  have hl := h.len
  have hk := (List.getElem?_eq_some_iff.1 hi).1
  have := World.ownsRow.cellAt h i (by omega)
  rw [this]
  exact hi
theorem Tg.mono {base' : Nat} (h : Tg w base t m d vs) (hb : base' ≤ base) : Tg w base' t m d vs := by
  refine ⟨h.1, ?_⟩
  rcases h.2 with ⟨h1, _⟩ | ⟨g', c, cur, h1, h2, h3⟩
  · simp at h1
  · exact .inr ⟨g', c, cur, h1, Nat.le_trans hb h2, h3⟩
theorem Tg.blk (h : Tg w base t m d vs) (e : w'.heap[d]? = w.heap[d]?) : Tg w' base t m d vs := by
  refine ⟨h.1, ?_⟩
  rcases h.2 with ⟨h1, _⟩ | ⟨g', c, cur, h1, h2, h3, h4⟩
  · simp at h1
  · have e1 : d = g' := by simp at h1; exact h1.1
    subst e1
    exact .inr ⟨d, c, cur, h1, h2, e.trans h3, h4⟩
theorem Tg.step (h : Tg w base t m d vs) (k : Below w.heap.size w w') : Tg w' base t m d vs := h.blk (k.block d h.lt.2)
theorem Tg.kept {row : Nat} (h : Tg w base t m d vs) (k : w.grownBy w' (some row)) (hr : d ≠ row) : Tg w' base t m d vs := h.blk (k.block d h.lt.2 (by simpa using hr))
theorem Tg.set (h : Tg w base t m d vs) (i : Nat) (v : Value) : Tg (w.setCell ⟨d, i, none⟩ v) base t m d (vs.set i v) ∧ w.grownBy (w.setCell ⟨d, i, none⟩ v) (some d) := World.ownsRow.stored h i v
end
/-- A struct's values with the first ones read. -/
def fill (vs : List Value) (q : List Int) : List Value := q.map (Value.int .i64) ++ vs.drop q.length
theorem fill_nil (vs : List Value) : fill vs [] = vs := by simp [fill]
theorem fill_at {vs : List Value} {q : List Int} {i : Nat} (h : q.length ≤ i) : (fill vs q)[i]? = vs[i]? := by
  unfold fill
  rw [List.getElem?_append_right (by simpa using h)]
  simp
  congr 1
  omega
theorem fill_next {vs : List Value} {q : List Int} (v : Int) (h : q.length < vs.length) : (fill vs q).set q.length (.int .i64 v) = fill vs (q ++ [v]) := by
  unfold fill
  rw [List.set_append_right _ _ (by simp)]
  simp
  rw [List.drop_eq_getElem_cons h]
  rfl
set_option maxRecDepth 100000 in
set_option maxHeartbeats 4000000 in
theorem iInto (w : World) (gl cl p base t m d g n cap : Nat) (xs : List Int) (x : Int) (vs : List Value) (hx : x ≤ 9223372036854775807) (h20 : xs.length ≤ 1048576) (hc : xs.length ≤ cl) (hg : gl < base) (hr : AtB w gl xs) (hp : Pl w base p x) (ht : Tg w base t m d vs)
    (hv : ∀ i, i < n → ∃ y, vs[i]? = some (.int .i64 y)) (hP : Ptr w g d n) (lg : g < w.heap.size) (n1 : g ≠ p) (n2 : g ≠ d) (n3 : p ≠ d) (hn : n ≤ 1048576) :
    Calls Tryz.prog 67 #[.agg #[.slice (some ⟨gl, 0, none⟩) xs.length cl, .pointer (some ⟨p, 0, none⟩)], .slice (some ⟨g, 0, none⟩) n cap] w fun e w' => e = .returned (.bool (gets xs n x []).2.2) ∧ Gr2 w w' p d ∧ ((gets xs n x []).2.2 = true → Pl w' base p (gets xs n x []).2.1 ∧ Tg w' base t m d (fill vs (gets xs n x []).1)) := by
  obtain ⟨r, E0⟩ : ∃ r, Hid (r = gets xs n x []) := ⟨_, rfl⟩
  rw [← unhide E0]
  obtain ⟨r0, r1, r2⟩ := r
  have G0 := hide ((Gr2.refl w p d).step (one_more w (.cells #[.slice (some ⟨gl, 0, none⟩) xs.length cl, .pointer (some ⟨p, 0, none⟩)] 75)))
  have C0 := hide (rd_box w (.slice (some ⟨gl, 0, none⟩) xs.length cl) (.pointer (some ⟨p, 0, none⟩)))
  have P0 := hide (show Pl (w.alloc (.cells #[.slice (some ⟨gl, 0, none⟩) xs.length cl, .pointer (some ⟨p, 0, none⟩)] 75)) base p x from pl_alloc hp _)
  have T0 := hide (show Tg (w.alloc (.cells #[.slice (some ⟨gl, 0, none⟩) xs.length cl, .pointer (some ⟨p, 0, none⟩)] 75)) base t m d (fill vs []) from by rw [fill_nil]; exact ht.step (one_more _ _))
  have S0 := hide (show w.heap.size + 1 ≤ (w.alloc (.cells #[.slice (some ⟨gl, 0, none⟩) xs.length cl, .pointer (some ⟨p, 0, none⟩)] 75)).heap.size from by simp)
  have R := hide hr
  have HP := hide hP
  have HV := hide hv
  have LP := hp.lt
  have LT := ht.lt
  clear hr hp ht hP hv
  go_enter Tryz.func67, Tryz.ntmps67
  go_wp2
  go_loopw [11] (fun i wr => ∃ (s : Int) (q : List Int) (k : Nat), i = .int .i64 k ∧ k ≤ n ∧ q.length = k ∧ s ≤ 9223372036854775807 ∧ Hid ((r0, r1, r2) = gets xs (n - k) s q) ∧ Hid (Pl wr base p s) ∧ Hid (Tg wr base t m d (fill vs q)) ∧ Hid (Gr2 w wr p d) ∧ Hid (wr.cell? ⟨w.heap.size, 0, none⟩ = some (.slice (some ⟨gl, 0, none⟩) xs.length cl) ∧ wr.cell? ⟨w.heap.size, 1, none⟩ = some (.pointer (some ⟨p, 0, none⟩))) ∧ w.heap.size + 1 ≤ wr.heap.size) (fun i _ => n - (intOf i).toNat)
  case atStart => exact ⟨x, [], 0, rfl, by omega, rfl, hx, E0, P0, T0, G0, C0, unhide S0⟩
  case round =>
    clear E0 P0 T0 G0 C0 S0
    obtain ⟨s, q, k, rfl, hk, ql, sm, HE, HQ, HT, HG, HC, HS⟩ := hrel
    obtain ⟨c0, c1⟩ := unhide HC
    by_cases h : k < n
    case neg =>
      have e : k = n := by omega
      subst e
      have F := unhide HE
      rw [Nat.sub_self] at F
      simp only [gets] at F
      injection F with F0 F
      injection F with F1 F2
      subst F0 F1 F2
      clear HE
      have QL := hide ql
      clear ql
      go_wp2
      go_ret
      exact ⟨rfl, unhide HG, unhide HQ, unhide HT⟩
    have kn : (k : Int) < n := by omega
    have NX := hide (show (r0, r1, r2) = if (getN xs s).2.2 = true then gets xs (n - (k + 1)) (getN xs s).2.1 (q ++ [(getN xs s).1]) else ([], 0, false) from by
      rw [unhide HE, show n - k = (n - (k + 1)) + 1 by omega]
      rfl)
    have IN := hide (iNum wr gl cl p base xs s sm h20 hc hg (AtB.below (unhide R) ((unhide HG).to (B := base) (by omega) LP.1 LT.1) hg) (unhide HQ))
    have GX := hide (getN_next xs s h20)
    have pk : wr.cell? ⟨g, k, none⟩ = some (.pointer (some ⟨d, k, none⟩)) := ((unhide HG).cell k lg n1 n2).trans ((unhide HP) k h)
    have QL := hide ql
    clear HE ql
    generalize getN xs s = y at *
    obtain ⟨y0, y1, y2⟩ := y
    go_wp2_with fail
    refine (unhide IN).mono ?_
    rintro e u ⟨v, s', rfl, hv, p1, g1⟩
    have us := g1.size
    have G1 := hide ((unhide HG).first g1)
    have P1 := hide p1
    have T1 := hide ((unhide HT).kept g1 (fun e => n3 e.symm))
    have d0 := (cell_grown g1 0 (g := w.heap.size) (by omega) (by omega)).trans c0
    have d1 := (cell_grown g1 1 (g := w.heap.size) (by omega) (by omega)).trans c1
    clear p1 g1 IN HQ HT HG HC c0 c1 pk
    cases y2 with
    | false =>
      have F := unhide NX
      rw [if_neg (by simp)] at F
      injection F with F0 F
      injection F with F1 F2
      subst F0 F1 F2
      clear NX hv GX
      go_wp2
      go_ret
      exact ⟨rfl, unhide G1, fun e => by simp at e⟩
    | true =>
      obtain ⟨rfl, rfl⟩ := hv rfl
      have gx := (unhide GX) rfl
      have N1 := hide (show (r0, r1, r2) = gets xs (n - (k + 1)) s' (q ++ [v]) from by rw [unhide NX, if_pos rfl])
      obtain ⟨y, hy⟩ := (unhide HV) k h
      have o1 : u.cell? ⟨d, k, none⟩ = some (.int .i64 y) := (unhide T1).at (by rw [fill_at (by rw [unhide QL]; exact Nat.le_refl _)]; exact hy)
      have f1 := (unhide T1).free k
      obtain ⟨t2, g2⟩ := (unhide T1).set k (.int .i64 v)
      have T2 := hide (show Tg (u.setCell ⟨d, k, none⟩ (.int .i64 v)) base t m d (fill vs (q ++ [v])) from by
        have e := fill_next (vs := vs) (q := q) v (by rw [unhide QL]; exact (List.getElem?_eq_some_iff.1 hy).1)
        rw [unhide QL] at e
        rw [← e]
        exact t2)
      have G2 := hide ((unhide G1).second g2)
      have P2 := hide (Ints.Own.kept (unhide P1) g2 (by simpa using n3))
      have D2 := hide (And.intro ((cell_grown g2 0 (g := w.heap.size) (by omega) (by omega)).trans d0) ((cell_grown g2 1 (g := w.heap.size) (by omega) (by omega)).trans d1))
      have z2 := g2.size
      clear NX GX hv d0 d1 hy t2 g2
      go_wp2
      go_roundw
      case rel => exact ⟨s', q ++ [v], k + 1, by go_num, by omega, by simp [unhide QL], gx, N1, P2, T2, G2, D2, by omega⟩
      case measure => simp [intOf]; omega
theorem Gr2.trans {w w1 w2 : World} {a b : Nat} (h : Gr2 w w1 a b) (k : Gr2 w1 w2 a b) : Gr2 w w2 a b :=
  ⟨k.os.trans h.os, k.tape.trans h.tape, k.output.trans h.output, Nat.le_trans h.size k.size, fun i hi h1 h2 => (k.block i (Nat.lt_of_lt_of_le hi h.size) h1 h2).trans (h.block i hi h1 h2)⟩
/-- A panic of the program's own. -/
def Pan (e : Ending) : Prop := ∃ u v, e = .panicked [{ v := .iface u v, recovered := false }]
/-- One number read into a place: what is told, and what is turned. -/
def One1 (r : Int × Int × Bool) (w : World) (base p : Nat) (q : Addr) (e : Ending) (w' : World) : Prop := e = .returned (.bool r.2.2) ∧ (r.2.2 = false → w.grownBy w' (some p)) ∧ (r.2.2 = true → ∃ u, w.grownBy u (some p) ∧ Pl u base p r.2.1 ∧ w' = u.setCell q (.int .i64 r.1))
/-- The same, where what cannot be read is a panic. -/
def Must1 (r : Int × Int × Bool) (w : World) (base p : Nat) (q : Addr) (e : Ending) (w' : World) : Prop := (r.2.2 = false ∧ Pan e ∧ w.grownBy w' (some p)) ∨ (r.2.2 = true ∧ e = .returned (.tuple #[]) ∧ ∃ u, w.grownBy u (some p) ∧ Pl u base p r.2.1 ∧ w' = u.setCell q (.int .i64 r.1))
def MustN (r : List Int × Int × Bool) (w : World) (base p t m d : Nat) (vs : List Value) (e : Ending) (w' : World) : Prop := (r.2.2 = false ∧ Pan e ∧ Gr2 w w' p d) ∨ (r.2.2 = true ∧ e = .returned (.tuple #[]) ∧ Gr2 w w' p d ∧ Pl w' base p r.2.1 ∧ Tg w' base t m d (fill vs r.1))
set_option maxRecDepth 100000 in
set_option maxHeartbeats 4000000 in
/-- One number read into a place. -/
theorem iInto1 (w : World) (gl cl p base d o g cap : Nat) (xs : List Int) (x y : Int) (hx : x ≤ 9223372036854775807) (h20 : xs.length ≤ 1048576) (hc : xs.length ≤ cl) (hg : gl < base) (hr : AtB w gl xs) (hp : Pl w base p x) (ld : d < w.heap.size)
    (hy : w.cell? ⟨d, o, none⟩ = some (.int .i64 y)) (hf : w.frozen? ⟨d, o, none⟩ = false) (hP : w.cell? ⟨g, 0, none⟩ = some (.pointer (some ⟨d, o, none⟩))) (lg : g < w.heap.size) (n1 : g ≠ p) (n3 : d ≠ p) :
    Calls Tryz.prog 67 #[.agg #[.slice (some ⟨gl, 0, none⟩) xs.length cl, .pointer (some ⟨p, 0, none⟩)], .slice (some ⟨g, 0, none⟩) 1 cap] w (One1 (getN xs x) w base p ⟨d, o, none⟩) := by
  obtain ⟨r, E0⟩ : ∃ r, Hid (getN xs x = r) := ⟨_, rfl⟩
  have G0 := hide (show w.grownBy (w.alloc (.cells #[.slice (some ⟨gl, 0, none⟩) xs.length cl, .pointer (some ⟨p, 0, none⟩)] 75)) (some p) from grow_below (World.grownBy.refl _ _) (one_more _ _))
  have IN := hide (iNum (w.alloc (.cells #[.slice (some ⟨gl, 0, none⟩) xs.length cl, .pointer (some ⟨p, 0, none⟩)] 75)) gl cl p base xs x hx h20 hc hg (AtB.below hr (one_more _ _) (by have := hp.lt; omega)) (pl_alloc hp _))
  rw [unhide E0] at IN ⊢
  obtain ⟨r0, r1, r2⟩ := r
  have pc : (w.alloc (.cells #[.slice (some ⟨gl, 0, none⟩) xs.length cl, .pointer (some ⟨p, 0, none⟩)] 75)).cell? ⟨g, 0, none⟩ = some (.pointer (some ⟨d, o, none⟩)) := ((one_more w _).cell (p := ⟨g, 0, none⟩) lg).trans hP
  have HY := hide (((one_more w (.cells #[.slice (some ⟨gl, 0, none⟩) xs.length cl, .pointer (some ⟨p, 0, none⟩)] 75)).cell (p := ⟨d, o, none⟩) ld).trans hy)
  have HF := hide hf
  have LD := ld
  clear hr hp hy hf hP
  go_enter Tryz.func67, Tryz.ntmps67
  go_wp2
  go_loopw [11] (fun i wr => (i = .int .i64 0 ∧ wr = w.alloc (.cells #[.slice (some ⟨gl, 0, none⟩) xs.length cl, .pointer (some ⟨p, 0, none⟩)] 75)) ∨ (i = .int .i64 1 ∧ Hid (r2 = true ∧ ∃ u, w.grownBy u (some p) ∧ Pl u base p r1 ∧ wr = u.setCell ⟨d, o, none⟩ (.int .i64 r0)))) (fun i _ => 1 - (intOf i).toNat)
  case atStart => exact .inl ⟨rfl, rfl⟩
  case round =>
    rcases hrel with ⟨rfl, rfl⟩ | ⟨rfl, HE⟩
    · go_wp2_with fail
      refine (unhide IN).mono ?_
      rintro e u ⟨v, s', rfl, hv, p1, g1⟩
      have G1 := hide (grow_grow (unhide G0) g1)
      have P1 := hide p1
      have d1 : u.cell? ⟨d, o, none⟩ = some (.int .i64 y) := (cell_grown g1 o (g := d) (by simp; omega) n3).trans (unhide HY)
      have f1 : u.frozen? ⟨d, o, none⟩ = false := by
        have e : u.heap[d]? = w.heap[d]? := (unhide G1).block d LD (by simpa using n3)
        have := unhide HF
        simpa [World.frozen?, e] using this
      clear p1 g1 IN pc
      cases r2 with
      | false =>
        clear hv
        go_wp2
        go_ret
        exact ⟨rfl, fun _ => unhide G1, fun e => by simp at e⟩
      | true =>
        obtain ⟨rfl, rfl⟩ := hv rfl
        clear hv
        go_wp2
        go_roundw
        case rel => exact .inr ⟨by go_num, hide ⟨by first | rfl | trivial, u, unhide G1, unhide P1, rfl⟩⟩
        case measure => simp [intOf]
    · clear pc IN
      obtain ⟨e2, HU⟩ := unhide HE
      subst e2
      have HU := hide HU
      go_wp2
      go_ret
      exact ⟨rfl, fun e => by simp at e, fun _ => unhide HU⟩
set_option maxRecDepth 100000 in
theorem iMust1 (w : World) (gl cl p base d o g cap : Nat) (xs : List Int) (x y : Int) (ev : Value) (et : TypeId) (hx : x ≤ 9223372036854775807) (h20 : xs.length ≤ 1048576) (hc : xs.length ≤ cl) (hg : gl < base) (hr : AtB w gl xs) (hp : Pl w base p x) (ld : d < w.heap.size)
    (hy : w.cell? ⟨d, o, none⟩ = some (.int .i64 y)) (hf : w.frozen? ⟨d, o, none⟩ = false) (hP : w.cell? ⟨g, 0, none⟩ = some (.pointer (some ⟨d, o, none⟩))) (lg : g < w.heap.size) (n1 : g ≠ p) (n3 : d ≠ p) (he : w.cell? ⟨0, 0, none⟩ = some (.iface et ev)) (h0 : 0 < base) :
    Calls Tryz.prog 45 #[.agg #[.slice (some ⟨gl, 0, none⟩) xs.length cl, .pointer (some ⟨p, 0, none⟩)], .slice (some ⟨g, 0, none⟩) 1 cap] w (Must1 (getN xs x) w base p ⟨d, o, none⟩) := by
  have lp := hp.lt
  have G0 := hide (show w.grownBy (w.alloc (.cells #[.slice (some ⟨gl, 0, none⟩) xs.length cl, .pointer (some ⟨p, 0, none⟩)] 75)) (some p) from grow_below (World.grownBy.refl _ _) (one_more _ _))
  have IN := hide (iInto1 (w.alloc (.cells #[.slice (some ⟨gl, 0, none⟩) xs.length cl, .pointer (some ⟨p, 0, none⟩)] 75)) gl cl p base d o g cap xs x y hx h20 hc hg (AtB.below hr (one_more _ _) (by omega)) (pl_alloc hp _) (by simp; omega) (((one_more w _).cell (p := ⟨d, o, none⟩) ld).trans hy) (by
    have e : (w.alloc (.cells #[.slice (some ⟨gl, 0, none⟩) xs.length cl, .pointer (some ⟨p, 0, none⟩)] 75)).heap[d]? = w.heap[d]? := (one_more w _).block d ld
    simpa [World.frozen?, e] using hf) (((one_more w _).cell (p := ⟨g, 0, none⟩) lg).trans hP) (by simp; omega) n1 n3)
  have HE := hide he
  generalize getN xs x = r at *
  obtain ⟨r0, r1, r2⟩ := r
  clear hr hp hy hf hP he
  go_enter Tryz.func45, Tryz.ntmps45
  go_wp2_with fail
  refine (unhide IN).mono ?_
  rintro e w1 ⟨rfl, hn, hs⟩
  have HS := hide hs
  have HN := hide hn
  clear hs hn IN
  cases r2 with
  | false =>
    have G1 := hide (grow_grow (unhide G0) ((unhide HN) rfl))
    have e0 : w1.cell? ⟨0, 0, none⟩ = some (.iface et ev) := (cell_grown (unhide G1) 0 (g := 0) (by omega) (by omega)).trans (unhide HE)
    clear HN HS
    go_wp2
    exact ⟨rfl, .inl ⟨rfl, ⟨_, _, rfl⟩, unhide G1⟩⟩
  | true =>
    have HU := hide ((unhide HS) rfl)
    clear HN HS
    go_wp2
    go_end0
    obtain ⟨u, g1, p1, e1⟩ := unhide HU
    exact .inr ⟨rfl, rfl, u, grow_grow (unhide G0) g1, p1, e1⟩
set_option maxRecDepth 100000 in
theorem iMust (w : World) (gl cl p base t m d g n cap : Nat) (xs : List Int) (x : Int) (vs : List Value) (ev : Value) (et : TypeId) (hx : x ≤ 9223372036854775807) (h20 : xs.length ≤ 1048576) (hc : xs.length ≤ cl) (hg : gl < base) (hr : AtB w gl xs) (hp : Pl w base p x) (ht : Tg w base t m d vs)
    (hv : ∀ i, i < n → ∃ y, vs[i]? = some (.int .i64 y)) (hP : Ptr w g d n) (lg : g < w.heap.size) (n1 : g ≠ p) (n2 : g ≠ d) (n3 : p ≠ d) (hn : n ≤ 1048576) (he : w.cell? ⟨0, 0, none⟩ = some (.iface et ev)) (h0 : 0 < base) :
    Calls Tryz.prog 45 #[.agg #[.slice (some ⟨gl, 0, none⟩) xs.length cl, .pointer (some ⟨p, 0, none⟩)], .slice (some ⟨g, 0, none⟩) n cap] w (MustN (gets xs n x []) w base p t m d vs) := by
  have lp := hp.lt
  have lt := ht.lt
  have G0 := hide ((Gr2.refl w p d).step (one_more w (.cells #[.slice (some ⟨gl, 0, none⟩) xs.length cl, .pointer (some ⟨p, 0, none⟩)] 75)))
  have IN := hide (iInto (w.alloc (.cells #[.slice (some ⟨gl, 0, none⟩) xs.length cl, .pointer (some ⟨p, 0, none⟩)] 75)) gl cl p base t m d g n cap xs x vs hx h20 hc hg (AtB.below hr (one_more _ _) (by omega)) (pl_alloc hp _) (ht.step (one_more _ _)) hv (fun i hi => ((one_more w _).cell (p := ⟨g, i, none⟩) lg).trans (hP i hi)) (by simp; omega) n1 n2 n3 hn)
  have HE := hide he
  generalize gets xs n x [] = r at *
  obtain ⟨r0, r1, r2⟩ := r
  clear hr hp hv hP he ht
  go_enter Tryz.func45, Tryz.ntmps45
  go_wp2_with fail
  refine (unhide IN).mono ?_
  rintro e w1 ⟨rfl, hn, hs⟩
  have HS := hide hs
  have G1 := hide ((unhide G0).trans hn)
  clear hs hn IN
  cases r2 with
  | false =>
    have e0 : w1.cell? ⟨0, 0, none⟩ = some (.iface et ev) := ((unhide G1).cell 0 (g := 0) (by omega) (by omega) (by omega)).trans (unhide HE)
    clear HS
    go_wp2
    exact ⟨rfl, .inl ⟨rfl, ⟨_, _, rfl⟩, unhide G1⟩⟩
  | true =>
    have HU := hide ((unhide HS) rfl)
    clear HS
    go_wp2
    go_end0
    exact .inr ⟨rfl, rfl, unhide G1, (unhide HU).1, (unhide HU).2⟩
end Go.Proofs.YtefcigaalgfmiaaGreatDoor.IInto13
namespace Go.Proofs.YtefcigaalgfmiaaGreatDoor.SRows13
open Go.ChangeShapes Go.WideShapes Go.ChangeAt Go.RowKit SBytes SPut11 SPuts11 SGets11
/-- Rows read one behind the other: those read, the place then, and whether all were there. -/
def rowsL (xs : List Int) (wide : Nat) : Nat → Int → List (List Int) → List (List Int) × Int × Bool
  | 0, p, l => (l, p, true)
  | m + 1, p, l => if (getsN xs p wide).2.2 = true then rowsL xs wide m (getsN xs p wide).2.1 (l ++ [(getsN xs p wide).1]) else (l, 0, false)
/-- What l13Rows answers. -/
def rowsN (xs : List Int) (p : Int) (wide : Nat) (most : Int) : List (List Int) × Int × Bool :=
  if (getN xs p).2.2 = true ∧ (getN xs p).1 ≤ most then rowsL xs wide (getN xs p).1.toNat (getN xs p).2.1 [] else ([], 0, false)
/-- Rows in memory: a list of lists. -/
def RowAt (w : World) (lo g : Nat) (rs : List (List Int)) : Prop :=
  ∀ i, i < rs.length → ∃ gi ci, lo ≤ gi ∧ w.cell? ⟨g, i, none⟩ = some (.slice (some ⟨gi, 0, none⟩) (rs.getD i []).length ci) ∧ gi < w.heap.size ∧ Ints.At w gi (rs.getD i [])
theorem RowAt.below {w w' : World} {lo g B : Nat} {rs : List (List Int)} (h : RowAt w lo g rs) (k : Below w.heap.size w w') (hg : g < w.heap.size) : RowAt w' lo g rs := fun i hi => by
  obtain ⟨gi, ci, l, a, b, c⟩ := h i hi
  exact ⟨gi, ci, l, (k.cell (p := ⟨g, i, none⟩) hg).trans a, Nat.lt_of_lt_of_le b k.size, c.below k b⟩
theorem infoS : (Tryz.prog.info? 38).map (fun i => (i.zero, i.size, i.bytes)) = some (some (.slice none 0 0), 1, 24) := by kernel_rfl
/-- Rows while they are read: the outer list of the call's own. -/
structure Rws (w : World) (base g n c : Nat) (rs : List (List Int)) (vs : List Value) : Prop where
  o : w.ownsRow base 38 1 (.slice (some ⟨g, 0, none⟩) n c) n vs
  l : vs.length = n
  m : rs.length = n
  r : ∀ i, i < n → ∃ gi ci, base ≤ gi ∧ vs[i]? = some (.slice (some ⟨gi, 0, none⟩) (rs.getD i []).length ci) ∧ gi ≠ g ∧ gi < w.heap.size ∧ Ints.At w gi (rs.getD i [])
theorem Rws.lt {w : World} {base g n c : Nat} {rs : List (List Int)} {vs : List Value} (h : Rws w base g n c rs vs) : base ≤ g ∧ g < w.heap.size := World.ownsRow.lt h.o g rfl
theorem Rws.below {w w' : World} {base g n c : Nat} {rs : List (List Int)} {vs : List Value} (h : Rws w base g n c rs vs) (k : Below w.heap.size w w') : Rws w' base g n c rs vs := by
  refine ⟨⟨h.o.1, ?_⟩, h.l, h.m, fun i hi => ?_⟩
  · rcases h.o.2 with ⟨h1, _⟩ | ⟨g', c', cur, h1, h2, h3, h4⟩
    · simp at h1
    · obtain ⟨e, _⟩ : g = g' ∧ c = c' := by simpa using h1
      subst e
      exact Or.inr ⟨g, c', cur, h1, h2, by rw [k.block g h.lt.2]; exact h3, h4⟩
  · obtain ⟨gi, ci, l, a, b, d, e⟩ := h.r i hi
    exact ⟨gi, ci, l, a, b, Nat.lt_of_lt_of_le d k.size, e.below k d⟩
theorem Rws.at {w : World} {base g n c : Nat} {rs : List (List Int)} {vs : List Value} (h : Rws w base g n c rs vs) : RowAt w base g rs := fun i hi => by
  obtain ⟨gi, ci, l, a, b, d, e⟩ := h.r i (by rw [← h.m]; exact hi)
  refine ⟨gi, ci, l, ?_, d, e⟩
  have hl := h.l
  have hm := h.m
  have := World.ownsRow.cellAt h.o i (by omega)
  rw [this]
  exact a
theorem Rws.start (w : World) (base : Nat) (hb : base ≤ w.heap.size) : Rws (w.alloc (.cells #[] 38)) base w.heap.size 0 0 [] [] :=
  ⟨World.ownsRow_lit w #[] 0 hb (by decide) rfl, rfl, rfl, fun i hi => absurd hi (by omega)⟩
/-- One row more. -/
theorem wp_row (u : World) {ops : Array Oper} {rest : List Oper} {o : Oper} {a : Act} {Q : Exit → Act → World → Prop} (hgd : o.guard = none) (s x : Operand)
    (ho : o.op = .call { callee := .builtin .append, args := #[s, x], argTypes := #[39, 39] }) (base g n c gi m ci : Nat) (rs : List (List Int)) (vs : List Value) (row : List Int)
    (hs : a.eval s = .slice (some ⟨g, 0, none⟩) n c) (hx : a.eval x = .slice (some ⟨u.heap.size, 0, none⟩) 1 1) (hR : Rws u base g n c rs vs) (hi : Ints.At u gi row) (hl : row.length = m) (hne : gi ≠ g) (hlo : base ≤ gi) (hgi : gi < u.heap.size) (hn : n ≤ 1048576) (hb : base ≤ u.heap.size)
    (h : ∀ g' c' w' vs', Rws w' base g' (n + 1) c' (rs ++ [row]) vs' → (u.alloc (.cells #[.slice (some ⟨gi, 0, none⟩) m ci] 38)).grownBy w' (some g) → wpList Tryz.prog ops Q rest (a.put o.dst (.slice (some ⟨g', 0, none⟩) (n + 1) c')) w') : wpList Tryz.prog ops Q (o :: rest) a (u.alloc (.cells #[.slice (some ⟨gi, 0, none⟩) m ci] 38)) := by
  obtain ⟨i0, hi0, hz0, hz1, hz2⟩ := info_parts infoS
  have hR' := hR.below ((Below.refl _ u).alloc (Nat.le_refl _) (.cells #[.slice (some ⟨gi, 0, none⟩) m ci] 38))
  refine wpList_append_own_at _ hgd s x 39 ho base 38 i0 (.slice none 0 0) 1 24 Tryz.underlying39 hi0 hz0 hz1 hz2 rfl (by decide) _ n _ hs hR'.o ⟨u.heap.size, 0, none⟩ 1 1 [.slice (some ⟨gi, 0, none⟩) m ci] hx rfl (fun j v hj => by
    cases j with
    | zero =>
      have e : v = .slice (some ⟨gi, 0, none⟩) m ci := by simpa using hj.symm
      rw [e]
      simp [Addr.add]
    | succ j => simp at hj) (by simp [Value.oneCell']) (by unfold maxLen; omega) (by omega) (by simp; omega) ?_
  intro v' w' own' gr' nil' loc'
  rcases own'.2 with ⟨h1, _⟩ | ⟨g', c', cur, h1, _⟩
  · rw [h1] at nil'; simp at nil'
  · subst h1
    have loc : g' = g ∨ g' = u.heap.size + 1 := by simpa [Value.ownBlock] using loc'
    refine h g' c' w' (vs ++ [.slice (some ⟨gi, 0, none⟩) m ci]) ⟨own', by simp [hR.l], by simp [hR.m], fun i hi' => ?_⟩ gr'
    have lg := hR.lt.2
    by_cases e : i < n
    · obtain ⟨gj, cj, q0, q1, q2, q3, q4⟩ := hR.r i e
      have lr : i < rs.length := by rw [hR.m]; exact e
      have er : (rs ++ [row]).getD i [] = rs.getD i [] := by simp [List.getD, List.getElem?_append_left lr]
      refine ⟨gj, cj, q0, ?_, by omega, ?_, ?_⟩
      · rw [er, List.getElem?_append_left (by rw [hR.l]; exact e)]; exact q1
      · have := gr'.size; simp at this; omega
      · rw [er]
        exact fun k hk => (World.cell?_of_block (w := u) (a := ⟨gj, k, none⟩) ((gr'.block gj (by simp; omega) (by simpa [Value.ownBlock] using q2)).trans (Below.heap_alloc u _ _ q3))).trans (q4 k hk)
    · have ei : i = n := by omega
      subst ei
      have er : (rs ++ [row]).getD i [] = row := by simp [List.getD, ← hR.m]
      refine ⟨gi, ci, hlo, ?_, by omega, ?_, ?_⟩
      · rw [er, hl, ← hR.l]; simp
      · have := gr'.size; simp at this; omega
      · rw [er]
        exact fun k hk => (World.cell?_of_block (w := u) (a := ⟨gi, k, none⟩) ((gr'.block gi (by simp; omega) (by simpa [Value.ownBlock] using hne)).trans (Below.heap_alloc u _ _ hgi))).trans (hi k hk)
/-- What the rows come to. -/
def RowsSaid (r : List (List Int) × Int × Bool) (w : World) (e : Ending) (w' : World) : Prop :=
  ∃ g c, e = .returned (.tuple #[.slice (some ⟨g, 0, none⟩) r.1.length c, .int .i64 r.2.1, .bool r.2.2]) ∧ w.heap.size ≤ g ∧ g < w'.heap.size ∧ RowAt w' w.heap.size g r.1 ∧ Below w.heap.size w w'
theorem RowsSaid.mk {r : List (List Int) × Int × Bool} {w w' : World} {e : Ending} (g c : Nat) (h : e = .returned (.tuple #[.slice (some ⟨g, 0, none⟩) r.1.length c, .int .i64 r.2.1, .bool r.2.2])) (a : w.heap.size ≤ g) (b : g < w'.heap.size) (d : RowAt w' w.heap.size g r.1) (f : Below w.heap.size w w') : RowsSaid r w e w' := ⟨g, c, h, a, b, d, f⟩
set_option maxRecDepth 100000 in
set_option maxHeartbeats 4000000 in
theorem sRows (w : World) (gl cl : Nat) (xs : List Int) (p0 : Int) (wide : Nat) (most : Int) (h20 : xs.length ≤ 1048576) (hw : wide ≤ 2000) (hm : most ≤ 1000) (hg : gl < w.heap.size) (hr : AtB w gl xs) :
    Calls Tryz.prog 12 #[.slice (some ⟨gl, 0, none⟩) xs.length cl, .int .i64 p0, .int .i64 wide, .int .i64 most] w (RowsSaid (rowsN xs p0 wide most) w) := by
  have R0 := hide (Rws.start w w.heap.size (Nat.le_refl _))
  have B0 := hide (one_more w (.cells #[] 38))
  have R := hide hr
  have HG := hide hg
  have SG := hide (sGetNum (w.alloc (.cells #[] 38)) gl cl xs p0 h20 (hr.below (unhide B0) hg))
  obtain ⟨r, hq⟩ : ∃ r, Hid (rowsN xs p0 wide most = r) := ⟨_, rfl⟩
  rw [unhide hq]
  unfold rowsN at hq
  clear hr hg
  generalize getN xs p0 = y at *
  obtain ⟨n, f, ok⟩ := y
  cases ok with
  | false =>
    have e := unhide hq
    rw [if_neg (by simp)] at e
    subst e
    clear hq
    go_enter Tryz.func12, Tryz.ntmps12
    go_wp2_with fail
    refine (unhide SG).mono ?_
    rintro e u ⟨rfl, rfl⟩
    go_wp2
    go_ret3
    exact .mk _ 0 rfl (Nat.le_refl _) (unhide R0).lt.2 (unhide R0).at (unhide B0)
  | true =>
  by_cases nm : n ≤ most
  case neg =>
    have e := unhide hq
    rw [if_neg (by simpa using nm)] at e
    subst e
    have nm2 : most < n := by omega
    clear hq nm
    go_enter Tryz.func12, Tryz.ntmps12
    go_wp2_with fail
    refine (unhide SG).mono ?_
    rintro e u ⟨rfl, rfl⟩
    go_wp2
    go_ret3
    exact .mk _ 0 rfl (Nat.le_refl _) (unhide R0).lt.2 (unhide R0).at (unhide B0)
  have Q := unhide hq
  rw [if_pos ⟨rfl, nm⟩] at Q
  have HQ := hide Q
  clear hq Q
  obtain ⟨r0, r1, r2⟩ := r
  have nm2 : ¬ most < n := by omega
  go_enter Tryz.func12, Tryz.ntmps12
  go_wp2_with fail
  refine (unhide SG).mono ?_
  rintro e u ⟨rfl, rfl⟩
  go_wp2
  clear SG nm2
  go_loopw [1, 11, 14, 15, 16, 17] (fun a l i _ _ _ wr => ∃ (p : Int) (rs : List (List Int)) (vs : List Value) (g c k m : Nat), a = .int .i64 p ∧ l = .slice (some ⟨g, 0, none⟩) m c ∧ i = .int .i64 k ∧ m = k ∧ (k ≤ n.toNat) ∧ Hid (rowsL xs wide (n.toNat - k) p rs = (r0, r1, r2)) ∧ Hid (Rws wr w.heap.size g m c rs vs) ∧ Hid (Below w.heap.size w wr)) (fun _ _ i _ _ _ _ => n.toNat - (intOf i).toNat)
  case atStart => exact ⟨f, [], [], w.heap.size, 0, 0, 0, rfl, rfl, rfl, rfl, by omega, HQ, R0, B0⟩
  case round =>
    clear R0 B0 HQ
    obtain ⟨p, rs, vs, g, c, k, m, rfl, rfl, rfl, rfl, hk, HE, HR, HB⟩ := hrel
    have bs := (unhide HB).size
    have og := (unhide HR).lt
    by_cases t : m < n.toNat
    · have NX := hide (show (if (getsN xs p wide).2.2 = true then rowsL xs wide (n.toNat - (m + 1)) (getsN xs p wide).2.1 (rs ++ [(getsN xs p wide).1]) else (rs, 0, false)) = (r0, r1, r2) from by
        rw [← unhide HE, show n.toNat - m = (n.toNat - (m + 1)) + 1 by omega]
        rfl)
      have kn : (m : Int) < n := by omega
      have SN := hide (sGetNums wr gl cl xs p wide h20 (by have := unhide HG; omega) (AtB.below (unhide R) (unhide HB) (unhide HG)))
      clear HE
      generalize getsN xs p wide = y at *
      obtain ⟨y0, y1, y2⟩ := y
      go_wp2_with fail
      refine (unhide SN).mono ?_
      rintro e u ⟨gi, ci, rfl, oi, bi⟩
      have us := bi.size
      have og2 := oi.lt
      have OI := hide oi
      have HR1 := hide ((unhide HR).below bi)
      have B1 := hide ((unhide HB).trans (bi.mono bs))
      clear oi bi SN
      cases y2 with
      | false =>
        have F := unhide NX
        rw [if_neg (by simp)] at F
        injection F with F0 F
        injection F with F1 F2
        subst F0 F1 F2
        have RM := (unhide HR).m
        clear NX
        go_wp2
        go_ret3
        exact .mk g c (by show _ = Ending.returned (.tuple #[.slice (some ⟨g, 0, none⟩) rs.length c, _, _]); rw [RM]; rfl) og.1 (unhide HR1).lt.2 (unhide HR1).at (unhide B1)
      | true =>
        have N1 := hide (show rowsL xs wide (n.toNat - (m + 1)) y1 (rs ++ [y0]) = (r0, r1, r2) from by rw [← unhide NX, if_pos rfl])
        clear NX
        go_wp2_with (first | (at_builtin; refine wp_row u rfl _ _ rfl w.heap.size g m c gi y0.length ci rs vs y0 rfl rfl (unhide HR1) (unhide OI).at rfl (by omega) (by omega) og2.2 (by omega) (by omega) ?_) | go_in)
        intro g5 c5 w5 vs5 R5 gr5
        have HR5 := hide R5
        have B5 := hide (((unhide B1).alloc (by omega) (.cells #[.slice (some ⟨gi, 0, none⟩) y0.length ci] 38)).grown gr5 (by simp; omega) (fun j hj => by cases hj; exact og.1))
        clear R5 gr5
        go_wp2
        go_roundw
        case rel => exact ⟨y1, rs ++ [y0], vs5, g5, c5, m + 1, m + 1, rfl, rfl, by go_num, rfl, by omega, N1, HR5, B5⟩
        case measure => simp [intOf]; omega
    · have e : n.toNat = m := by omega
      have F := unhide HE
      rw [e, Nat.sub_self] at F
      simp only [rowsL] at F
      injection F with F0 F
      injection F with F1 F2
      subst F0 F1 F2
      have RM := hide (unhide HR).m
      have OG := hide og
      have kn : ¬ (m : Int) < n := by omega
      clear HE og
      go_wp2
      go_ret3
      exact .mk g c (by show _ = Ending.returned (.tuple #[.slice (some ⟨g, 0, none⟩) rs.length c, _, _]); rw [unhide RM]; rfl) (unhide OG).1 (unhide OG).2 (unhide HR).at (unhide HB)
end Go.Proofs.YtefcigaalgfmiaaGreatDoor.SRows13
