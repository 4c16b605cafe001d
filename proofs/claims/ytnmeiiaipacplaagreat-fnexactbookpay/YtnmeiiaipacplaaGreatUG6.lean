/- Texts of one proof, one behind the other: Lay, Sort3, Out, Post, Entry, ILotsFit, SLots, SBooksOk, Ans, Post2, SPost, SBk, SIssue, TBox, SLegs, SMove, SCarryP, Corp, SFx. -/
import Derived.Test.YtnmeiiaipacplaaGreatRows
import Derived.Test.YtnmeiiaipacplaaGreatUG1
import Derived.Test.YtnmeiiaipacplaaGreatUG2
import Derived.Test.YtnmeiiaipacplaaGreatUG3
import Derived.Test.YtnmeiiaipacplaaGreatUG4
import Derived.Test.YtnmeiiaipacplaaGreatUG5
import Derived.Shelf.SlGeneric
import Derived.Shelf.SlSortCmp.WholeK
import Derived.Ground.SlsfProg
import Derived.WideKeyEntry
import Derived.Deep.RegionHeld3
import Derived.Deep.AppendLies
set_option linter.unusedVariables false
set_option linter.unusedSimpArgs false
namespace Go.Proofs
open Go.Shelf
def Tryz.sortL_ren : Go.Shelf.Ren := ⟨fun | 6 => 173 | 15 => 192 | 14 => 191 | 28 => 213 | 29 => 214 | 20 => 205 | 21 => 206 | 22 => 207 | 23 => 208 | 24 => 209 | 25 => 210 | 26 => 211 | 27 => 212 | 46 => 217 | 47 => 218 | 48 => 219 | 49 => 220 | 50 => 221 | 57 => 223 | n => n, fun | 22 => 32 | 24 => 119 | 25 => 194 | 3 => 3 | 39 => 169 | 0 => 0 | 53 => 170 | 55 => 130 | 4 => 4 | 46 => 222 | 45 => 221 | 50 => 136 | 5 => 5 | 9 => 9 | 66 => 231 | 70 => 235 | 76 => 238 | 77 => 102 | n => n, fun | n => n⟩
theorem Tryz.sortL : Go.Proofs.SlLaysF0.n6 Tryz.prog Tryz.sortL_ren := {
  mixed := by kernel_rfl
  f6 := ⟨Tryz.f173.name, by decide, Tryz.func173.trans (congrArg some (by kernel_rfl))⟩
  f14 := ⟨Tryz.f191.name, by decide, Tryz.func191.trans (congrArg some (by kernel_rfl))⟩
  f15 := Tryz.func192.trans (congrArg some (by kernel_rfl))
  f20 := ⟨Tryz.f205.name, by decide, Tryz.func205.trans (congrArg some (by kernel_rfl))⟩
  f21 := ⟨Tryz.f206.name, by decide, Tryz.func206.trans (congrArg some (by kernel_rfl))⟩
  f22 := ⟨Tryz.f207.name, by decide, Tryz.func207.trans (congrArg some (by kernel_rfl))⟩
  f23 := ⟨Tryz.f208.name, by decide, Tryz.func208.trans (congrArg some (by kernel_rfl))⟩
  f24 := ⟨Tryz.f209.name, by decide, Tryz.func209.trans (congrArg some (by kernel_rfl))⟩
  f25 := ⟨Tryz.f210.name, by decide, Tryz.func210.trans (congrArg some (by kernel_rfl))⟩
  f26 := ⟨Tryz.f211.name, by decide, Tryz.func211.trans (congrArg some (by kernel_rfl))⟩
  f27 := ⟨Tryz.f212.name, by decide, Tryz.func212.trans (congrArg some (by kernel_rfl))⟩
  f28 := Tryz.func213.trans (congrArg some (by kernel_rfl))
  f29 := Tryz.func214.trans (congrArg some (by kernel_rfl))
  f46 := ⟨Tryz.f217.name, by decide, Tryz.func217.trans (congrArg some (by kernel_rfl))⟩
  f47 := Tryz.func218.trans (congrArg some (by kernel_rfl))
  f48 := Tryz.func219.trans (congrArg some (by kernel_rfl))
  f49 := ⟨Tryz.f220.name, by decide, Tryz.func220.trans (congrArg some (by kernel_rfl))⟩
  f50 := ⟨Tryz.f221.name, by decide, Tryz.func221.trans (congrArg some (by kernel_rfl))⟩
  f57 := ⟨Tryz.f223.name, by decide, Tryz.func223.trans (congrArg some (by kernel_rfl))⟩
  t0 := Tryz.underlying0
  a0 := Tryz.isAgg0
  z0 := Tryz.sizeOf0
  v0 := Tryz.zeroValue0
  t3 := Tryz.underlying3
  a3 := Tryz.isAgg3
  z3 := Tryz.sizeOf3
  v3 := Tryz.zeroValue3
  t4 := Tryz.underlying4
  a4 := Tryz.isAgg4
  z4 := Tryz.sizeOf4
  v4 := Tryz.zeroValue4
  t5 := Tryz.underlying5
  a5 := Tryz.isAgg5
  z5 := Tryz.sizeOf5
  v5 := Tryz.zeroValue5
  t9 := Tryz.underlying9
  a9 := Tryz.isAgg9
  z9 := Tryz.sizeOf9
  v9 := Tryz.zeroValue9
  t22 := Tryz.underlying32
  a22 := Tryz.isAgg32
  z22 := Tryz.sizeOf32
  v22 := Tryz.zeroValue32
  t25 := Tryz.underlying194
  a25 := Tryz.isAgg194
  z25 := Tryz.sizeOf194
  v25 := Tryz.zeroValue194
  t39 := Tryz.underlying169
  a39 := Tryz.isAgg169
  z39 := Tryz.sizeOf169
  v39 := Tryz.zeroValue169
  t45 := Tryz.underlying221
  a45 := Tryz.isAgg221
  z45 := Tryz.sizeOf221
  v45 := Tryz.zeroValue221
  t46 := Tryz.underlying222
  a46 := Tryz.isAgg222
  z46 := Tryz.sizeOf222
  v46 := Tryz.zeroValue222
  t50 := Tryz.underlying136
  a50 := Tryz.isAgg136
  z50 := Tryz.sizeOf136
  v50 := Tryz.zeroValue136
  t53 := Tryz.underlying170
  a53 := Tryz.isAgg170
  z53 := Tryz.sizeOf170
  v53 := Tryz.zeroValue170
  t55 := Tryz.underlying130
  a55 := Tryz.isAgg130
  z55 := Tryz.sizeOf130
  v55 := Tryz.zeroValue130
  t66 := Tryz.underlying231
  a66 := Tryz.isAgg231
  z66 := Tryz.sizeOf231
  v66 := Tryz.zeroValue231
  t70 := Tryz.underlying235
  a70 := Tryz.isAgg235
  z70 := Tryz.sizeOf235
  v70 := Tryz.zeroValue235
  t76 := Tryz.underlying238
  a76 := Tryz.isAgg238
  z76 := Tryz.sizeOf238
  v76 := Tryz.zeroValue238
  t77 := Tryz.underlying102
  a77 := Tryz.isAgg102
  z77 := Tryz.sizeOf102
  v77 := Tryz.zeroValue102 }
end Go.Proofs
namespace Go.Proofs.YtnmeiiaipacplaaGreat.Sort3
open Go.ChangeShapes Go.WideShapes Go.ChangeAt Go.RowKit Bals Triples Cmp
open Go.Sort (putRow putCells mapBlock onCells Holds SWO PermIn SortedIn grow flatK get_flatK size_flatK HoldsK)
def enc (p : T3) : List Value := [.int .i64 p.1, .int .i64 p.2.1, .int .i64 p.2.2]
def cf (p q : T3) : Int := cmpK p.1 p.2.1 q.1 q.2.1
theorem lt_iff (p q : T3) : ltOf cf p q = true ↔ Bef p q := by
  unfold ltOf cf Bef
  rw [decide_eq_true_eq, cmpK_lt]
theorem lt_not (p q : T3) : ltOf cf p q = false ↔ ¬ Bef p q := by
  rw [← lt_iff]
  simp
theorem swo : SWO (ltOf cf) where
  irrefl x := by rw [lt_not]; exact bef_irrefl x
  trans x y z h1 h2 := by rw [lt_iff] at *; exact bef_trans h1 h2
  ntrans x y z h1 h2 := by rw [lt_not] at *; unfold Bef at *; omega
theorem flat_flatK (d : Array T3) : (flatK enc 3 d).toList = flat3 d.toList := by
  apply List.ext_getElem?
  intro t
  by_cases ht : t < d.size * 3
  · have e1 : (flatK enc 3 d).toList[t]? = some ((enc d[t / 3]!)[t % 3]!) := by
      have := get_flatK enc 3 d t ht
      rw [getElem!_pos _ t (by simpa using ht)] at this
      simp only [Array.getElem?_toList]
      rw [Array.getElem?_eq_getElem (by simpa using ht), this]
    have hq : t / 3 < d.size := by omega
    have e2 : el3 d.toList (t / 3) = d[t / 3]! := by
      rw [getElem!_pos d (t / 3) hq]
      simp [el3, List.getD, hq]
    obtain ⟨f0, f1, f2⟩ := flat3_get d.toList (t / 3) (by simpa using hq)
    rw [e2] at f0 f1 f2
    rw [e1]
    rcases (show t % 3 = 0 ∨ t % 3 = 1 ∨ t % 3 = 2 by omega) with e | e | e
    · rw [show t / 3 * 3 = t by omega] at f0
      rw [f0, e]; rfl
    · rw [show t / 3 * 3 + 1 = t by omega] at f1
      rw [f1, e]; rfl
    · rw [show t / 3 * 3 + 2 = t by omega] at f2
      rw [f2, e]; rfl
  · rw [List.getElem?_eq_none (by simp; omega), List.getElem?_eq_none (by rw [flat3_len]; simp; omega)]
theorem sw_heap (w : World) (blk q : Nat) (d : Array T3) (os : Array Obj) : (sortWorldK enc 3 w blk 0 q d os).heap = (w.heap.modify blk (onCells (putCells id 0 (flatK enc 3 d)))) ++ os := rfl
theorem sw_other (w : World) (blk q : Nat) (d : Array T3) (os : Array Obj) (k : Nat) (hk : k < w.heap.size) (hne : k ≠ blk) : (sortWorldK enc 3 w blk 0 q d os).heap[k]? = w.heap[k]? := by
  rw [sw_heap, Array.getElem?_append_left (by simpa using hk), Array.getElem?_modify, if_neg (Ne.symm hne)]
theorem sw_same (w : World) (blk q : Nat) (d : Array T3) (os : Array Obj) (cur : Array Value) (e : TypeId) (fr : Nat × Nat) (h : w.heap[blk]? = some (.cells cur e fr)) : (sortWorldK enc 3 w blk 0 q d os).heap[blk]? = some (.cells (putCells id 0 (flatK enc 3 d) cur) e fr) := by
  have hb : blk < w.heap.size := (Array.getElem?_eq_some_iff.1 h).1
  rw [sw_heap, Array.getElem?_append_left (by simpa using hb), Array.getElem?_modify, if_pos rfl, h]
  rfl
theorem sw_below (w : World) (blk q : Nat) (d : Array T3) (os : Array Obj) (hb : blk < w.heap.size) : Below blk w (sortWorldK enc 3 w blk 0 q d os) := by
  refine ⟨rfl, rfl, rfl, ?_, fun k hk => ?_⟩
  · rw [sw_heap]; simp
  · exact sw_other w blk q d os k (by omega) (by omega)
theorem put_take (F cur : Array Value) (h : F.size ≤ cur.size) : (putCells id 0 F cur).toList.take F.size = F.toList := by
  apply List.ext_getElem?
  intro i
  by_cases hi : i < F.size
  · rw [List.getElem?_take, if_pos hi]
    have e1 : (putCells id 0 F cur).toList[i]? = some F[i]! := by
      simp [putCells, hi, show i < cur.size by omega]
    rw [e1, getElem!_pos F i hi]
    simp [hi]
  · rw [List.getElem?_take, if_neg hi, List.getElem?_eq_none (by simp; omega)]
theorem own_sorted (w : World) (base blk n cap q : Nat) (d : Array T3) (os : Array Obj) (ps : List T3) (hd : d.size = n) (h : Own3 119 w base blk n cap ps) :
    Own3 119 (sortWorldK enc 3 w blk 0 q d os) base blk n cap d.toList := by
  refine ⟨by rw [flat3_len]; simp [hd], ?_⟩
  rcases h.2 with ⟨z, _⟩ | ⟨g', c, cur, z, hb, hc, h1, h2, h3, h4⟩
  · simp at z
  · obtain ⟨rfl, rfl⟩ : blk = g' ∧ cap = c := by simpa using z
    refine Or.inr ⟨blk, cap, _, rfl, hb, sw_same w blk q d os cur 119 (0, 0) hc, h1, h2, by simpa [putCells] using h3, ?_⟩
    have := put_take (flatK enc 3 d) cur (by rw [size_flatK, hd, h3]; exact Nat.mul_le_mul_right 3 h1)
    rw [size_flatK, hd, flat_flatK] at this
    exact this
theorem holds_of (w : World) (base blk n cap : Nat) (ps : List T3) (h : Own3 119 w base blk n cap ps) : HoldsK enc 3 w blk 0 ps.toArray := by
  intro j hj
  have hl := h.len
  have hj' : j < n * 3 := by simpa [hl] using hj
  refine ⟨?_, by simpa using h.free (0 + j)⟩
  rw [Nat.zero_add]
  have e := World.ownsRow.cellAt h j hj'
  rw [e]
  have f := flat_flatK ps.toArray
  have g : flat3 ps = (flatK enc 3 ps.toArray).toList := by rw [f]
  rw [g, Array.getElem?_toList, Array.getElem?_eq_getElem hj, getElem!_pos _ j hj]
  rfl
set_option maxRecDepth 100000 in
theorem closure (x y : T3) (w : World) : Calls Tryz.prog 174 #[.agg #[.int .i64 x.1, .int .i64 x.2.1, .int .i64 x.2.2], .agg #[.int .i64 y.1, .int .i64 y.2.1, .int .i64 y.2.2]] w fun e w' => e = .returned (.int .i64 (cf x y)) ∧ ∃ q os, w' = grow (w.drewN q) os := by
  obtain ⟨a, i, p⟩ := x
  obtain ⟨b, j, q⟩ := y
  go_enter Tryz.func174, Tryz.ntmps174
  go_wp2_with fail
  refine (compareG a i b j _).mono ?_
  rintro e w1 ⟨rfl, n, os, rfl⟩
  go_wp2
  go_ret
  refine ⟨rfl, n, #[.cells #[.int .i64 a, .int .i64 i, .int .i64 p] 119] ++ #[.cells #[.int .i64 b, .int .i64 j, .int .i64 q] 119] ++ os, ?_⟩
  rw [Go.Sort.alloc_eq_grow, Go.Sort.alloc_eq_grow, Go.Sort.grow_grow]
  exact Go.Sort.grow_grow (w.drewN n) _ _
theorem cmpLays (blk size : Nat) (w : World) : CmpLays Tryz.prog 174 #[] enc 3 cf blk 0 size w := fun _ _ _ _ x y => closure x y _
theorem sorts (w : World) (base blk n cap : Nat) (ps : List T3) (hn : n ≤ 1048576) (ho : Own3 119 w base blk n cap ps) :
    Calls Tryz.prog 173 #[.slice (some ⟨blk, 0, none⟩) n cap, .func (.func 174) #[] #[]] w fun e w' =>
      e = .returned (.tuple #[]) ∧ ∃ qs, qs.Perm ps ∧ qs.Pairwise (fun p q => ¬ Bef q p) ∧ Own3 119 w' base blk n cap qs ∧ Below blk w w' := by
  have hl := ho.len
  have hs : ps.toArray.size = n := by simpa using hl
  have eg : ∀ args w, (callFunc 174 args).run Tryz.prog w = .ok (.enter 174 args) w := enters_of Tryz.func174 (by kernel_rfl) rfl
  have hcon := AnyQ.slices_SortFunc Tryz.sortL 3 Tryz.isAgg119 Tryz.sizeOf119 enc (fun _ => rfl) (fun x v hv => by simp [enc] at hv; rcases hv with rfl | rfl | rfl <;> rfl) cf swo 174 #[] blk 0 cap ps.toArray w eg (cmpLays blk _ w) (holds_of w base blk n cap ps ho) ho.lt.2 (by rw [hs]; omega)
  change Calls Tryz.prog 173 _ _ _ at hcon
  rw [hs] at hcon
  refine hcon.mono ?_
  rintro e w' ⟨rfl, d', q, os, hp, hso, rfl⟩
  have hd : d'.size = n := hp.1.trans hs
  refine ⟨rfl, d'.toList, ?_, ?_, own_sorted w base blk n cap q d' os ps hd ho, sw_below w blk q d' os ho.lt.2⟩
  · have := hp.2.2
    rw [Array.extract_eq_self_of_le (by omega), Array.extract_eq_self_of_le (by omega)] at this
    simpa using this
  · rw [List.pairwise_iff_getElem]
    intro i j hi hj hij
    have hj' : j < d'.size := by simpa using hj
    have := hso i j (Nat.zero_le _) hij (by omega)
    rw [getElem!_pos d' j hj', getElem!_pos d' i (by omega), lt_not] at this
    simpa using this
end Go.Proofs.YtnmeiiaipacplaaGreat.Sort3
namespace Go.Proofs.YtnmeiiaipacplaaGreat.Out
open Go.ChangeShapes Go.WideShapes Go.ChangeAt Go.RowKit Bals Triples Cmp Tab Look Sort3
def Coll (qs : List T3) (f : Int → Int → Int) (left : Int → Int → Bool) : Prop :=
  qs.Pairwise (fun p q => other p q) ∧ ∀ p : T3, p ∈ qs ↔ p.2.2 ≠ 0 ∧ f p.1 p.2.1 = p.2.2 ∧ Wf p.1 p.2.1 ∧ left p.1 p.2.1 = false
theorem coll_start {f : Int → Int → Int} {left : Int → Int → Bool} (h : ∀ a i, f a i ≠ 0 → left a i = true) : Coll [] f left := by
  refine ⟨List.Pairwise.nil, fun p => ⟨fun h => absurd h List.not_mem_nil, fun ⟨h1, h2, _, h3⟩ => ?_⟩⟩
  rw [h p.1 p.2.1 (by rw [h2]; exact h1)] at h3
  cases h3
theorem coll_zero {qs : List T3} {f : Int → Int → Int} {left left' : Int → Int → Bool} {a i : Int} (h : Coll qs f left) (hl : ∀ b j, Wf b j → left' b j = (left b j && !decide (b = a ∧ j = i))) (hz : f a i = 0) : Coll qs f left' := by
  refine ⟨h.1, fun p => ?_⟩
  rw [h.2 p]
  constructor
  · rintro ⟨h1, h2, h3, h4⟩
    exact ⟨h1, h2, h3, by rw [hl _ _ h3, h4]; rfl⟩
  · rintro ⟨h1, h2, h3, h4⟩
    refine ⟨h1, h2, h3, ?_⟩
    rw [hl _ _ h3] at h4
    by_cases e : p.1 = a ∧ p.2.1 = i
    · rw [e.1, e.2, hz] at h2
      exact absurd h2.symm h1
    · simpa [e] using h4
theorem coll_more {qs : List T3} {f : Int → Int → Int} {left left' : Int → Int → Bool} {a i : Int} (h : Coll qs f left) (hw : Wf a i) (hla : left a i = true) (hl : ∀ b j, Wf b j → left' b j = (left b j && !decide (b = a ∧ j = i))) (hz : f a i ≠ 0) : Coll (qs ++ [(a, i, f a i)]) f left' := by
  refine ⟨?_, fun p => ?_⟩
  · rw [List.pairwise_append]
    refine ⟨h.1, List.pairwise_singleton _ _, fun p hp q hq => ?_⟩
    rw [List.mem_singleton] at hq
    subst hq
    obtain ⟨_, _, _, h4⟩ := (h.2 p).1 hp
    unfold other
    show a ≠ p.1 ∨ i ≠ p.2.1
    refine Classical.byContradiction fun n => ?_
    have n1 : p.1 = a := Classical.byContradiction fun q => n (.inl (Ne.symm q))
    have n2 : p.2.1 = i := Classical.byContradiction fun q => n (.inr (Ne.symm q))
    rw [n1, n2, hla] at h4
    cases h4
  · rw [List.mem_append, List.mem_singleton, h.2 p]
    constructor
    · rintro (⟨h1, h2, h3, h4⟩ | rfl)
      · exact ⟨h1, h2, h3, by rw [hl _ _ h3, h4]; rfl⟩
      · exact ⟨hz, rfl, hw, by rw [hl _ _ hw]; simp⟩
    · rintro ⟨h1, h2, h3, h4⟩
      by_cases e : p.1 = a ∧ p.2.1 = i
      · obtain ⟨p1, p2, p3⟩ := p
        obtain ⟨rfl, rfl⟩ := e
        simp only at h2
        subst h2
        exact .inr rfl
      · rw [hl _ _ h3] at h4
        exact .inl ⟨h1, h2, h3, by simpa [e] using h4⟩
theorem coll_end {qs rs : List T3} {f : Int → Int → Int} {left : Int → Int → Bool} (h : Coll qs f left) (hf : ∀ a i, f a i ≠ 0 → Wf a i) (hl : ∀ a i, Wf a i → left a i = false) (hp : rs.Perm qs) (hs : rs.Pairwise (fun p q => ¬ Bef q p)) : ListOf f rs := by
  have hd : rs.Pairwise (fun p q => other p q) := (hp.pairwise_iff (fun {a b} (o : other a b) => by unfold other at o ⊢; rcases o with o | o; exact .inl (Ne.symm o); exact .inr (Ne.symm o))).2 h.1
  have asc : rs.Pairwise Bef := by
    rw [List.pairwise_iff_getElem] at hs hd ⊢
    intro i j hi hj hij
    have h1 := hs i j hi hj hij
    have h2 := hd i j hi hj hij
    unfold other at h2
    unfold Bef at h1 ⊢
    omega
  have mem : ∀ p : T3, p ∈ rs ↔ p.2.2 ≠ 0 ∧ f p.1 p.2.1 = p.2.2 := fun p => by
    rw [hp.mem_iff, h.2 p]
    constructor
    · rintro ⟨h1, h2, _⟩
      exact ⟨h1, h2⟩
    · rintro ⟨h1, h2⟩
      have w := hf p.1 p.2.1 (by rw [h2]; exact h1)
      exact ⟨h1, h2, w, hl _ _ w⟩
  refine ⟨⟨asc, fun p hp' => ((mem p).1 hp').1⟩, fun a i => ?_⟩
  by_cases z : f a i = 0
  · rw [z]
    refine Classical.byContradiction fun nz => ?_
    have hm := val_mem rs a i nz
    have := ((mem _).1 hm).2
    simp only at this
    rw [z] at this
    exact nz this.symm
  · have hm := (mem (a, i, f a i)).2 ⟨z, rfl⟩
    exact val_of_mem rs asc _ hm
theorem own_apart {e : TypeId} {w : World} {base g n cap : Nat} {ps : List T3} {B r m : Nat} {f : Int → Int → Int} {left : Int → Int → Bool} {cnt : Nat} (h : Own3 e w base g n cap ps) (k : RTab w B r m f left cnt) : g ≠ B ∧ g ≠ r := by
  obtain ⟨D, lf, ⟨es, clock, since, seen, c0, hb, _, _, _, hr, _⟩, _⟩ := k
  rcases h.2 with ⟨z, _⟩ | ⟨g', c, cur, z, _, hc, _⟩
  · simp at z
  · obtain ⟨rfl, rfl⟩ : g = g' ∧ cap = c := by simpa using z
    constructor
    · intro e
      rw [e, hb] at hc
      simp at hc
    · intro e
      rw [e, hr] at hc
      simp at hc
theorem Tab.wf {w : World} {B n : Nat} {f : Int → Int → Int} (h : Tab w B n f) : ∀ a i, f a i ≠ 0 → Wf a i := by
  obtain ⟨D, _, h2⟩ := h
  exact h2.2
set_option maxRecDepth 100000 in
set_option maxHeartbeats 2000000 in
theorem iBals (w : World) (B n : Nat) (f : Int → Int → Int) (hn : n ≤ 100000) (ht : Tab w B n f) :
    Calls Tryz.prog 148 #[.map (some B)] w fun e w' => ∃ qs g c, ListOf f qs ∧ qs.length ≤ n ∧ e = .returned (.slice (some ⟨g, 0, none⟩) qs.length c) ∧ Own3 119 w' w.heap.size g qs.length c qs ∧ Below w.heap.size w w' := by
  have hB := ht.lt
  have HWF := hide (Tab.wf ht)
  have t1 := ht.kept (World.grownBy_alloc w (.cells #[] 119) none) (by simp)
  have HT := hide t1
  have O0 := hide (lit30 119 w w.heap.size (Nat.le_refl _))
  have B0 := hide (show Below w.heap.size w (w.alloc (.cells #[] 119)) from (Below.refl _ _).alloc (Nat.le_refl _) _)
  clear ht t1
  go_enter Tryz.func148, Tryz.ntmps148
  go_wp2_with (first | (at_range; refine wp_range _ rfl _ 172 rfl Tryz.underlying172 B n f rfl (unhide HT) ?_; intro w0 left0 cnt0 rt0 c0 lz0 g0 s0) | go_in)
  go_frame
  have RT := hide rt0
  have CO := hide (coll_start lz0)
  have O1 := hide ((unhide O0).kept g0 (by simp))
  have B1 := hide (next (unhide B0) (grownBy_below g0))
  clear rt0 lz0 g0 HT O0 B0
  simp only [World.size_alloc] at RT s0
  simp only [World.size_alloc]
  generalize hR : w.heap.size + 1 = R at *
  have hRl : w.heap.size < R := by omega
  go_loopw [3, 4, 5] (fun l _ _ wr => ∃ (qs : List T3) (g c : Nat) (left : Int → Int → Bool) (cnt : Nat), l = .slice (some ⟨g, 0, none⟩) qs.length c ∧ Hid (Own3 119 wr w.heap.size g qs.length c qs) ∧ Hid (RTab wr B R n f left cnt) ∧ Hid (Coll qs f left) ∧ qs.length + cnt ≤ n ∧ Hid (Below w.heap.size w wr)) (fun _ _ _ wr => wr.rangeLeft B R)
  case atStart => exact ⟨[], w.heap.size, 0, left0, cnt0, rfl, O1, RT, CO, by simpa using c0, B1⟩
  case round =>
    clear RT CO O1 B1 c0 s0
    obtain ⟨qs, g, c, left, cnt, rfl, HO, RT, CO, hc, HB⟩ := hrel
    go_wp2_with (first | (at_next; refine wp_next _ rfl _ rfl B R n f left cnt rfl (unhide RT) ?_ ?_) | go_in)
    · intro c0 l0
      have LZ := hide l0
      have sz := (unhide HO).lt
      clear l0
      go_wp2_with fail
      refine (sorts _ w.heap.size g qs.length c qs (by omega) (unhide HO)).mono ?_
      rintro e w2 ⟨rfl, rs, hp, hs, o2, b2⟩
      have LO := hide (coll_end (unhide CO) (unhide HWF) (unhide LZ) hp hs)
      have el : rs.length = qs.length := hp.length_eq
      have O2 := hide o2
      have B2 := hide ((unhide HB).trans (b2.mono sz.1))
      clear hp hs o2 b2
      go_wp2
      go_ret
      exact ⟨rs, g, c, unhide LO, by omega, by rw [el]; rfl, by rw [el]; exact unhide O2, unhide B2⟩
    · intro a i w2 left2 cnt2 wf wv la l2 rt2 lt2 g2 s2 hen
      have l2 : ∀ b j, Wf b j → left2 b j = (left b j && !decide (b = a ∧ j = i)) := fun b j h => by
        rw [l2 b j h]
        by_cases e1 : b = a <;> by_cases e2 : j = i <;> simp [e1, e2]
      have ap := own_apart (unhide HO) (unhide RT)
      have ML := hide (show w2.rangeLeft B R < wr.rangeLeft B R by rw [rt2.lt.2.2.2, (unhide RT).lt.2.2.2]; exact lt2)
      have RT2 := hide rt2
      have O2 := hide ((unhide HO).kept g2 (by simp; exact ap.2))
      have B2 := hide ((unhide HB).grown g2 (unhide HB).size (fun j hj => by cases hj; exact Nat.le_of_lt hRl))
      have CZ := hide (fun hz => coll_zero (unhide CO) l2 hz)
      have CM := hide (fun hz => coll_more (unhide CO) wf la l2 hz)
      clear rt2 l2 g2 s2 la wf wv CO
      generalize f a i = v at *
      have O3 := hide ((unhide O2).alloc (.cells #[.int .i64 a, .int .i64 i] 177))
      have R3 := hide ((unhide RT2).kept (World.grownBy_alloc w2 (.cells #[.int .i64 a, .int .i64 i] 177) none) (by simp) (by simp))
      have B3 := hide ((unhide B2).alloc (unhide B2).size (.cells #[.int .i64 a, .int .i64 i] 177))
      have M3 : World.rangeLeft (w2.alloc (.cells #[.int .i64 a, .int .i64 i] 177)) B R = w2.rangeLeft B R := by rw [(unhide R3).lt.2.2.2, (unhide RT2).lt.2.2.2]
      have M3 := hide M3
      have bs := (unhide B2).size
      by_cases v0 : v = 0
      · have CC := hide ((unhide CZ) v0)
        clear CZ CM
        subst v0
        go_wp2
        go_roundw
        case rel => exact ⟨qs, g, c, left2, cnt2, rfl, O3, R3, CC, by omega, B3⟩
        case measure => rw [unhide M3]; exact unhide ML
      · have CC := hide ((unhide CM) v0)
        have v0b : (v == 0) = false := by simpa using v0
        clear CZ CM
        have O4 := hide ((unhide O3).alloc (.cells #[.int .i64 a, .int .i64 i, .int .i64 v] 119))
        have R4 := hide ((unhide R3).kept (World.grownBy_alloc _ (.cells #[.int .i64 a, .int .i64 i, .int .i64 v] 119) none) (by simp) (by simp))
        have B4 := hide ((unhide B3).alloc (unhide B3).size (.cells #[.int .i64 a, .int .i64 i, .int .i64 v] 119))
        have V4 := hide (show Holds3 ((w2.alloc (.cells #[.int .i64 a, .int .i64 i] 177)).alloc (.cells #[.int .i64 a, .int .i64 i, .int .i64 v] 119)) (w2.heap.size + 1) 0 (a, i, v) from by unfold Holds3; simp)
        go_wp2_with (first | (at_builtin; refine BalApp.wp_app _ rfl _ _ rfl w.heap.size g qs.length c qs (w2.heap.size + 1) a i v rfl rfl (unhide O4) (unhide V4) (by omega) (by simp; omega) ?_; intro g5 c5 w5 o5 gr5 _) | go_in)
        have R5 := hide ((unhide R4).kept gr5 (by simp; exact Ne.symm ap.1) (by simp; exact Ne.symm ap.2))
        have M5 := hide (show w5.rangeLeft B R = w2.rangeLeft B R by rw [(unhide R5).lt.2.2.2, (unhide RT2).lt.2.2.2])
        have B5 := hide ((unhide B4).grown gr5 (by simp; omega) (fun j hj => by cases hj; exact (unhide HO).lt.1))
        have el : (qs ++ [(a, i, v)]).length = qs.length + 1 := by simp
        have O5 := hide o5
        clear o5 gr5
        go_wp2
        go_roundw
        case rel => exact ⟨qs ++ [(a, i, v)], g5, c5, left2, cnt2, by rw [el], hide (by rw [el]; exact unhide O5), R5, CC, by rw [el]; omega, B5⟩
        case measure => rw [unhide M5]; exact unhide ML
end Go.Proofs.YtnmeiiaipacplaaGreat.Out
namespace Go.Proofs.YtnmeiiaipacplaaGreat.Post
open Go.ChangeShapes Go.WideShapes Go.ChangeAt Go.RowKit Bals Triples Cmp SOk3 IOk3 Tab Look SPut3 Out Legs
def sumIn (a b : Int) (c : Bool) : Int := if c then a + b else 0
set_option maxRecDepth 100000 in
theorem sAdd (a b : Int) (c : Bool) (w : World) (ha : Amt a) (hb : Amt b) (hc : Says c (Amt (a + b))) :
    Calls Tryz.prog 140 #[.int .i64 a, .int .i64 b] w fun e w' => e = .returned (.tuple #[.int .i64 (sumIn a b c), .bool c]) ∧ w' = w := by
  have hs : IntKind.i64.wrap (a + b) = a + b := by unfold Amt at ha hb; rw [IntKind.wrap_i64]; omega
  have SA : Says true (Amt a) := ⟨fun _ => ha, fun _ => rfl⟩
  have SB : Says true (Amt b) := ⟨fun _ => hb, fun _ => rfl⟩
  have T := hide (show (true = true ∧ Amt (a + b) ∧ sumIn a b c = a + b ∧ c = true) ∨ (¬ (true = true ∧ Amt (a + b)) ∧ sumIn a b c = 0 ∧ c = false) from by
    cases c
    · exact .inr ⟨fun q => hc.no q.2, rfl, rfl⟩
    · exact .inl ⟨rfl, hc.yes, rfl, rfl⟩)
  clear ha hb hc
  generalize sumIn a b c = r at *
  go_enter Tryz.func140, Tryz.ntmps140
  go_wp2_with fail
  refine (sAmt a true _ SA).mono ?_
  rintro e w1 ⟨rfl, rfl⟩
  go_wp2_with fail
  refine (sAmt b true _ SB).mono ?_
  rintro e w2 ⟨rfl, rfl⟩
  go_wp2_with fail
  refine (sTold (a + b) true c r _ (by have := unhide T; simpa using this)).mono ?_
  rintro e w3 ⟨rfl, rfl⟩
  go_wp2
  go_ret2
  exact ⟨rfl, rfl⟩
set_option maxRecDepth 100000 in
theorem iAdd (a b : Int) (c : Bool) (w : World) (ha : Amt a) (hb : Amt b) (hc : Says c (Amt (a + b))) :
    Calls Tryz.prog 119 #[.int .i64 a, .int .i64 b] w fun e w' => e = .returned (.tuple #[.int .i64 (sumIn a b c), .bool c]) ∧ w' = w := by
  have hs : IntKind.i64.wrap (a + b) = a + b := by unfold Amt at ha hb; rw [IntKind.wrap_i64]; omega
  have SA : Says true (Amt a) := ⟨fun _ => ha, fun _ => rfl⟩
  have SB : Says true (Amt b) := ⟨fun _ => hb, fun _ => rfl⟩
  have T := hide (show (Amt (a + b) ∧ sumIn a b c = a + b ∧ c = true) ∨ (¬ Amt (a + b) ∧ sumIn a b c = 0 ∧ c = false) from by
    cases c
    · exact .inr ⟨hc.no, rfl, rfl⟩
    · exact .inl ⟨hc.yes, rfl, rfl⟩)
  clear ha hb hc
  generalize sumIn a b c = r at *
  go_enter Tryz.func119, Tryz.ntmps119
  go_wp2_with fail
  refine (iAmt a true _ SA).mono ?_
  rintro e w1 ⟨rfl, rfl⟩
  go_wp2_with fail
  refine (iAmt b true _ SB).mono ?_
  rintro e w2 ⟨rfl, rfl⟩
  go_wp2_with fail
  refine (iOnly (a + b) c r _ (unhide T)).mono ?_
  rintro e w3 ⟨rfl, rfl⟩
  go_wp2
  go_ret2
  exact ⟨rfl, rfl⟩
theorem in_iff {xs : List Int} {x : Int} : x ∈ xs ↔ ∃ i, i < xs.length ∧ xs.getD i 0 = x := by
  constructor
  · intro h
    obtain ⟨i, hi, e⟩ := List.getElem_of_mem h
    exact ⟨i, hi, by simp [List.getD, hi, e]⟩
  · rintro ⟨i, hi, e⟩
    rw [← e]
    simp only [List.getD, List.getElem?_eq_getElem hi, Option.getD_some]
    exact List.getElem_mem hi
set_option maxRecDepth 100000 in
theorem sHas (w : World) (g n cap : Nat) (xs : List Int) (x : Int) (b : Bool) (hl : xs.length = n) (h20 : n ≤ 1048576) (h : Ints.At w g xs) (hb : Says b (x ∈ xs)) :
    Calls Tryz.prog 142 #[.slice (some ⟨g, 0, none⟩) n cap, .int .i64 x] w fun e w' => e = .returned (.bool b) ∧ w' = w := by
  go_enter Tryz.func142, Tryz.ntmps142
  go_wp2
  go_loop [5] (fun j => ∃ (k : Nat), k ≤ n ∧ j = .int .i64 k ∧ Hid (∀ i, i < k → xs.getD i 0 ≠ x)) (fun j => n - (intOf j).toNat)
  case atStart => exact ⟨0, by omega, rfl, hide (fun i hi => by omega)⟩
  case round =>
    obtain ⟨k, hk, rfl, HG⟩ := hrel
    by_cases t : k < n
    · have e1 := h k (by omega)
      have YES := hide (show xs.getD k 0 = x → b = true from fun e => hb.of (in_iff.2 ⟨k, by omega, e⟩))
      have GO := hide (show xs.getD k 0 ≠ x → ∀ i, i < k + 1 → xs.getD i 0 ≠ x from fun hn i hi => by
        by_cases e : i = k
        · subst e; exact hn
        · exact (unhide HG) i (by omega))
      clear h
      generalize xs.getD k 0 = y at *
      by_cases c1 : y = x
      · obtain rfl : b = true := (unhide YES) c1
        clear YES GO
        subst c1
        go_wp2
        go_ret
        exact ⟨rfl, rfl⟩
      · have G := hide ((unhide GO) c1)
        have c1b : (y == x) = false := by simpa using c1
        clear YES GO
        go_wp2
        go_round
        case rel => exact ⟨k + 1, by omega, by go_num, G⟩
        case measure => simp [intOf]; omega
    · obtain rfl : k = n := by omega
      obtain rfl : b = false := hb.not (fun r => by
        obtain ⟨i, hi, e⟩ := in_iff.1 r
        exact (unhide HG) i (by omega) e)
      clear h hb
      go_wp2
      go_ret
      exact ⟨rfl, rfl⟩
set_option maxRecDepth 100000 in
theorem iIndex (w : World) (g n cap : Nat) (xs : List Int) (x : Int) (b : Bool) (hl : xs.length = n) (h20 : n ≤ 1048576) (h : Ints.At w g xs) (hb : Says b (x ∈ xs)) :
    Calls Tryz.prog 204 #[.slice (some ⟨g, 0, none⟩) n cap, .int .i64 x] w fun e w' => ∃ r, (b = true ↔ (0 : Int) ≤ r) ∧ e = .returned (.int .i64 r) ∧ w' = w := by
  go_enter Tryz.func204, Tryz.ntmps204
  go_wp2
  go_loop [5, 8] (fun _ j => ∃ (k : Nat), k ≤ n ∧ j = .int .i64 k ∧ Hid (∀ i, i < k → xs.getD i 0 ≠ x)) (fun _ j => n - (intOf j).toNat)
  case atStart => exact ⟨0, by omega, rfl, hide (fun i hi => by omega)⟩
  case round =>
    obtain ⟨k, hk, rfl, HG⟩ := hrel
    by_cases t : k < n
    · have e1 := h k (by omega)
      have YES := hide (show xs.getD k 0 = x → b = true from fun e => hb.of (in_iff.2 ⟨k, by omega, e⟩))
      have GO := hide (show xs.getD k 0 ≠ x → ∀ i, i < k + 1 → xs.getD i 0 ≠ x from fun hn i hi => by
        by_cases e : i = k
        · subst e; exact hn
        · exact (unhide HG) i (by omega))
      clear h
      generalize xs.getD k 0 = y at *
      by_cases c1 : y = x
      · have BT := hide ((unhide YES) c1)
        clear YES GO
        subst c1
        go_wp2
        go_ret
        exact ⟨(k : Int), ⟨fun _ => by omega, fun _ => unhide BT⟩, rfl, rfl⟩
      · have G := hide ((unhide GO) c1)
        have c1b : (x == y) = false := by simpa using (fun e => c1 (Eq.symm e))
        clear YES GO
        go_wp2
        go_round
        case rel => exact ⟨k + 1, by omega, by go_num, G⟩
        case measure => simp [intOf]; omega
    · obtain rfl : k = n := by omega
      have BF := hide (hb.not (fun r => by
        obtain ⟨i, hi, e⟩ := in_iff.1 r
        exact (unhide HG) i (by omega) e))
      clear h hb
      go_wp2
      go_ret
      exact ⟨-1, ⟨(fun e => by rw [unhide BF] at e; cases e), (fun e => by omega)⟩, rfl, rfl⟩
set_option maxRecDepth 100000 in
theorem iHas (w : World) (g n cap : Nat) (xs : List Int) (x : Int) (b : Bool) (hl : xs.length = n) (h20 : n ≤ 1048576) (h : Ints.At w g xs) (hb : Says b (x ∈ xs)) :
    Calls Tryz.prog 190 #[.slice (some ⟨g, 0, none⟩) n cap, .int .i64 x] w fun e w' => e = .returned (.bool b) ∧ w' = w := by
  have H := hide h
  clear h
  go_enter Tryz.func190, Tryz.ntmps190
  go_wp2_with fail
  refine (iIndex _ g n cap xs x b hl h20 (unhide H) hb).mono ?_
  rintro e w1 ⟨r, hr, rfl, rfl⟩
  cases b
  · have r0 : ¬ (0 : Int) ≤ r := fun q => by have := hr.2 q; cases this
    have rb : decide ((0 : Int) ≤ r) = false := decide_eq_false r0
    clear hr hb
    go_wp2
    go_ret
    exact ⟨by first | rfl | simp [rb], rfl⟩
  · have r0 : (0 : Int) ≤ r := hr.1 rfl
    clear hr hb
    go_wp2
    go_ret
    exact ⟨rfl, rfl⟩
theorem at3_grown {w w' : World} {g B : Nat} {ps : List T3} (h : At3 w g ps) (k : w.grownBy w' (some B)) (hg : g < w.heap.size) (hne : g ≠ B) : At3 w' g ps := by
  intro i hi
  obtain ⟨a, b, c⟩ := h i hi
  have e : w'.heap[g]? = w.heap[g]? := k.block g hg (by simp; exact hne)
  exact ⟨(World.cell?_of_block (w := w) (a := ⟨g, i * 3, none⟩) e).trans a, (World.cell?_of_block (w := w) (a := ⟨g, i * 3 + 1, none⟩) e).trans b, (World.cell?_of_block (w := w) (a := ⟨g, i * 3 + 2, none⟩) e).trans c⟩
theorem grown_drewN {w u : World} {row : Option Nat} (h : w.grownBy u row) (q : Nat) : w.grownBy (u.drewN q) row := ⟨h.os, h.tape, h.output, h.size, h.block⟩
theorem grown_of_drewN {w u : World} {row : Option Nat} {q : Nat} (h : (w.drewN q).grownBy u row) : w.grownBy u row := ⟨h.os, h.tape, h.output, h.size, h.block⟩
theorem tab_drewN {w : World} {B n : Nat} {f : Int → Int → Int} (h : Tab w B n f) (q : Nat) : Tab (w.drewN q) B n f := h
theorem look_run {w : World} {B n : Nat} {f : Int → Int → Int} (h : Tab w B n f) {a i : Int} (hw : Wf a i) : (Instr.lookup 172 (.map (some B)) (.agg #[.int .i64 a, .int .i64 i]) false).run Tryz.prog w = .ok (.int .i64 (f a i)) w := by
  obtain ⟨D, h1, h2, _⟩ := h
  obtain ⟨c, hrun, hat, _⟩ := h1.lookup_int law Tryz.underlying172 Tryz.underlying3 (zero _) (key_of hw)
  rw [h2 a i hw] at hat
  have : f a i = c := by simpa using hat
  rw [this]
  exact hrun
set_option maxRecDepth 100000 in
set_option maxHeartbeats 2000000 in
theorem iAddT (w : World) (B n gL m capL : Nat) (f : Int → Int → Int) (ls : List T3) (hl : ls.length = m) (hn : n ≤ 1000) (hg : gL < w.heap.size) (hne : gL ≠ B) (h : At3 w gL ls) (hF : Formed ls) (hf : Fine f) (ht : Tab w B n f) :
    Calls Tryz.prog 171 #[.map (some B), .slice (some ⟨gL, 0, none⟩) m capL] w fun e w' => ∃ ok : Bool, e = .returned (.bool ok) ∧ (ok = true → ∃ f', posts f ls = some f' ∧ Tab w' B (n + m) f' ∧ Fine f') ∧ (ok = false → posts f ls = none) ∧ w.grownBy w' (some B) := by
  have m160 : m ≤ 160 := by have := hF.1; omega
  have H := hide h
  have HF := hide hF
  have T0 := hide ht
  have F0 := hide hf
  clear h hF ht hf
  go_enter Tryz.func171, Tryz.ntmps171
  go_wp2
  go_loopw [6, 7, 8, 9, 12] (fun _ _ _ _ j wr => ∃ (k : Nat) (fk : Int → Int → Int), k ≤ m ∧ j = .int .i64 k ∧ Hid (Tab wr B (n + k) fk) ∧ Hid (Fine fk) ∧ Hid (posts f ls = posts fk (ls.drop k)) ∧ Hid (w.grownBy wr (some B))) (fun _ _ _ _ j _ => m - (intOf j).toNat)
  case atStart => exact ⟨0, f, by omega, rfl, T0, F0, hide rfl, hide (World.grownBy.refl _ _)⟩
  case round =>
    obtain ⟨k, fk, hk, rfl, HT, FK, HE, HG⟩ := hrel
    by_cases t : k < m
    · obtain ⟨e1, e2, e3⟩ := at3_grown (unhide H) (unhide HG) hg hne k (by omega)
      obtain ⟨l1, l2, l3⟩ := (unhide HF).2 k (by omega)
      have WF := wf_no l1 l2
      have AM := ((unhide FK) (el3 ls k).1 (el3 ls k).2.1).1
      obtain ⟨c, SC⟩ := says_of (Amt (fk (el3 ls k).1 (el3 ls k).2.1 + (el3 ls k).2.2))
      have PY := hide (fun a => (unhide HE).trans (posts_yes (f := fk) (ps := ls) (k := k) (by omega) a))
      have PN := hide (fun a => (unhide HE).trans (posts_no (f := fk) (ps := ls) (k := k) (by omega) a))
      have FU := hide (fun a => (unhide FK).upd (a := (el3 ls k).1) (i := (el3 ls k).2.1) (x := fk (el3 ls k).1 (el3 ls k).2.1 + (el3 ls k).2.2) l1 l2 a)
      have bl := (unhide HT).lt
      clear HE
      generalize (el3 ls k).1 = x at *
      generalize (el3 ls k).2.1 = y at *
      generalize (el3 ls k).2.2 = z at *
      have G1 := hide (grown_trans (grown_trans (unhide HG) (World.grownBy_alloc wr (.cells #[.int .i64 x, .int .i64 y, .int .i64 z] 80) (some B))) (World.grownBy_alloc (wr.alloc (.cells #[.int .i64 x, .int .i64 y, .int .i64 z] 80)) (.cells #[.int .i64 x, .int .i64 y] 177) (some B)))
      have T1 := hide (((unhide HT).kept (World.grownBy_alloc wr (.cells #[.int .i64 x, .int .i64 y, .int .i64 z] 80) none) (by simp)).kept (World.grownBy_alloc (wr.alloc (.cells #[.int .i64 x, .int .i64 y, .int .i64 z] 80)) (.cells #[.int .i64 x, .int .i64 y] 177) none) (by simp))
      go_wp2_with fail
      have d0 : ((wr.alloc (.cells #[.int .i64 x, .int .i64 y, .int .i64 z] 80)).alloc (.cells #[.int .i64 x, .int .i64 y] 177)).cell? ⟨wr.heap.size + 1, 0, none⟩ = some (.int .i64 x) := by simp
      have d1 : ((wr.alloc (.cells #[.int .i64 x, .int .i64 y, .int .i64 z] 80)).alloc (.cells #[.int .i64 x, .int .i64 y] 177)).cell? ⟨wr.heap.size + 1, 1, none⟩ = some (.int .i64 y) := by simp
      have d2 : ((wr.alloc (.cells #[.int .i64 x, .int .i64 y, .int .i64 z] 80)).alloc (.cells #[.int .i64 x, .int .i64 y] 177)).cell? ⟨wr.heap.size, 2, none⟩ = some (.int .i64 z) := by simp
      generalize (wr.alloc (.cells #[.int .i64 x, .int .i64 y, .int .i64 z] 80)).alloc (.cells #[.int .i64 x, .int .i64 y] 177) = u at *
      generalize wr.heap.size + 1 = kb at *
      have LK : ∀ q, (Instr.lookup 172 (.map (some B)) (.agg #[.int .i64 x, .int .i64 y]) false).run Tryz.prog (u.drewN q) = .ok (.int .i64 (fk x y)) (u.drewN q) := fun q => look_run (tab_drewN (unhide T1) q) WF
      generalize hv : fk x y = v at *
      have HV := hide hv
      clear hv e1 e2 e3
      go_quiet (first | (go_at_call 119; refine Calls.quiet_of_same (iAdd v z c _ AM l3 SC)))
      cases c
      · have NO := hide ((unhide PN) SC.no)
        clear PY PN FU
        go_wp2
        go_ret
        exact ⟨false, rfl, (fun e => by cases e), (fun _ => unhide NO), grown_drewN (unhide G1) _⟩
      · have YES := hide ((unhide PY) SC.yes)
        have FN := hide ((unhide FU) SC.yes)
        have WV := wf_amt SC.yes
        clear PY PN FU
        have e0 : sumIn v z true = v + z := rfl
        rw [e0]
        go_wp2_with (first | (at_mapUpdate; refine wp_put _ rfl _ _ _ 172 rfl Tryz.underlying172 B (n + k) fk rfl (tab_drewN (unhide T1) _) (by omega) x y (v + z) rfl rfl WF WV ?_) | go_in)
        intro w5 t5 g5
        have T5 := hide t5
        have G5 := hide (grown_trans (unhide G1) (grown_of_drewN g5))
        clear t5 g5
        go_wp2
        go_roundw
        case rel => exact ⟨k + 1, _, by omega, by go_num, T5, FN, YES, G5⟩
        case measure => simp [intOf]; omega
    · obtain rfl : k = m := by omega
      have E := hide (show posts f ls = some fk from by rw [unhide HE, List.drop_of_length_le (by omega)]; rfl)
      go_wp2
      go_ret
      exact ⟨true, rfl, (fun _ => ⟨fk, unhide E, unhide HT, unhide FK⟩), (fun e => by cases e), unhide HG⟩
end Go.Proofs.YtnmeiiaipacplaaGreat.Post
namespace Go.Proofs.YtnmeiiaipacplaaGreat.Entry
open Go.ChangeShapes Go.WideShapes Go.ChangeAt Go.RowKit Bals Tab Post
open Go.MapKept Go.ChangeMaps Go.WideElems
open Go.WideMaps (KeyLaw)
set_option maxRecDepth 100000 in
theorem klaw : KeyLaw Tryz.prog 177 := deep_law_laid laidOut (m := 2) (by omega) row (by kernel_rfl) wide
theorem owns_block {H : Type} {P : Program} {k : TypeId} {R : Value → Option (DataW H × List MemPlace)} {w w' : World} {b n : Nat} {D : DataW H} (h : w.ownsMap P k R b n D) (e : w'.heap[b]? = w.heap[b]?) : w'.ownsMap P k R b n D := by
  obtain ⟨es, clock, hb, F, hs, hD⟩ := h
  exact ⟨es, clock, e.trans hb, F, hs, hD⟩
theorem tab_block {w w' : World} {B n : Nat} {f : Int → Int → Int} (h : Tab w B n f) (e : w'.heap[B]? = w.heap[B]?) : Tab w' B n f := by
  obtain ⟨D, h1, h2⟩ := h
  exact ⟨D, owns_block h1 e, h2⟩
theorem put_run {w : World} {B n : Nat} {f : Int → Int → Int} (h : Tab w B n f) (hn : n ≤ 1048576) {a i v : Int} (hw : Wf a i) (hv : (Lit.int .i64 v).wf = true) :
    ∃ w', (Instr.mapUpdate 172 (.map (some B)) (.agg #[.int .i64 a, .int .i64 i]) (.int .i64 v)).run Tryz.prog w = .ok () w' ∧ Tab w' B (n + 1) (upd f a i v) ∧ w.grownBy w' (some B) := by
  obtain ⟨D, h1, h2⟩ := h
  obtain ⟨w', r, o, g⟩ := h1.update law Tryz.underlying172 (by unfold maxLen; omega) (key_of hw) (plainElem_int Tryz.underlying3 hv)
  exact ⟨w', r, ⟨_, o, tells_put h2 (isMap_of h1) hw⟩, g⟩
set_option maxRecDepth 100000 in
theorem entry_run {w : World} {B n : Nat} {f : Int → Int → Int} (h : Tab w B n f) (hn : n ≤ 1048576) {a i : Int} (hw : Wf a i) :
    ∃ (v0 : Value) (st : Nat) (w2 : World), (Instr.mapEntry 172 (.map (some B)) (.agg #[.int .i64 a, .int .i64 i])).run Tryz.prog w = .ok (.tuple #[v0, goInt st]) w2 ∧ Tab w2 B (n + 1) f ∧ w.grownBy w2 (some B) ∧
      ∀ v : Int, (Lit.int .i64 v).wf = true → ∃ w3, (Instr.entryStore 172 (.map (some B)) (goInt st) (.int .i64 v)).run Tryz.prog w2 = .ok () w3 ∧ Tab w3 B (n + 1) (upd f a i v) ∧ w.grownBy w3 (some B) := by
  have h' := h
  obtain ⟨D, ⟨es, clock, hb, F, hs, hD⟩, hT⟩ := h
  obtain ⟨v0, st, es1, clock1, hE, hd, hS⟩ := entry_then_store klaw Tryz.underlying172 (z := .int .i64 0) zero hb F (key_of hw)
  refine ⟨v0, st, _, hE, ?_, ⟨rfl, rfl, rfl, by simp [setBlock], fun j _ hj => heap_setBlock_other hb _ (fun e => hj (by rw [e]))⟩, fun v hv => ?_⟩
  · rcases law.find w (key_of hw) es.toList F.keys with ⟨h1, h2⟩ | ⟨j, e0, h1, h2, h3⟩
    · have hE' : (Instr.mapEntry 172 (.map (some B)) (.agg #[.int .i64 a, .int .i64 i])).run Tryz.prog w = .ok (.tuple #[.int .i64 0, goInt clock]) (setBlock w B (.map (es.push ⟨.agg #[.int .i64 a, .int .i64 i], .int .i64 0, clock⟩) (clock + 1))) := by
        simp [Instr.mapEntry, run_underlying Tryz.underlying172, MapKept.run_getObj_map hb, law.check w false (key_of hw), h1, zero, MapKept.run_setObj_map _ hb, Result.andThen, setBlock]
      obtain ⟨w', r, t, g⟩ := put_run h' hn (v := 0) hw (by decide)
      have r' : (Instr.mapUpdate 172 (.map (some B)) (.agg #[.int .i64 a, .int .i64 i]) (.int .i64 0)).run Tryz.prog w = .ok () (setBlock w B (.map (es.push ⟨.agg #[.int .i64 a, .int .i64 i], .int .i64 0, clock⟩) (clock + 1))) := by
        simp [Instr.mapUpdate, run_underlying Tryz.underlying172, MapKept.run_getObj_map hb, law.check w false (key_of hw), h1, MapKept.run_setObj_map _ hb, Result.andThen, setBlock]
      have ew : setBlock w B (.map es1 clock1) = w' := by
        rw [hE] at hE'
        rw [r] at r'
        injection hE' with _ e1
        injection r' with _ e2
        rw [e1, e2]
      have fz : f a i = 0 := by
        have l1 := look_run h' hw
        have l2 : (Instr.lookup 172 (.map (some B)) (.agg #[.int .i64 a, .int .i64 i]) false).run Tryz.prog w = .ok (.int .i64 0) w := by
          simp [Instr.lookup, run_underlying Tryz.underlying172, MapKept.run_getObj_map hb, fun em => law.check w em (key_of hw), h1, zero, Result.andThen]
        rw [l1] at l2
        injection l2 with e1 _
        simpa using e1
      rw [ew]
      refine t.congr fun b j => ?_
      unfold upd
      by_cases e : b = a ∧ j = i
      · rw [if_pos e, e.1, e.2, fz]
      · rw [if_neg e]
    · have hj : es[j]? = some e0 := by simpa using h2
      have hsame : es.modify j (fun e => { e with key := .agg #[.int .i64 a, .int .i64 i] }) = es := by
        apply Array.ext'
        rw [Array.toList_modify, modify_eq_set _ _ _ _ h2]
        have : ({ e0 with key := .agg #[.int .i64 a, .int .i64 i] } : MapEntry) = e0 := by rw [← h3]
        rw [this]
        exact set_self _ _ _ h2
      have hE' : (Instr.mapEntry 172 (.map (some B)) (.agg #[.int .i64 a, .int .i64 i])).run Tryz.prog w = .ok (.tuple #[e0.val, goInt e0.born]) (setBlock w B (.map es clock)) := by
        simp [Instr.mapEntry, run_underlying Tryz.underlying172, MapKept.run_getObj_map hb, law.check w false (key_of hw), h1, hj, h3, law.stays w (key_of hw), hsame, MapKept.run_setObj_map _ hb, Result.andThen, setBlock]
      rw [hE] at hE'
      injection hE' with _ e1
      rw [e1]
      obtain ⟨D', o1, t1⟩ := tab_block (w' := setBlock w B (.map es clock)) h' (by rw [heap_setBlock_same hb]; exact hb.symm)
      exact ⟨D', o1.mono (by omega), t1⟩
  · obtain ⟨es', clock', s1, s2⟩ := hS _ (.int .i64 v) (heap_setBlock_same hb _)
    obtain ⟨w', r, t, g⟩ := put_run h' hn hw hv
    have ew : w' = setBlock w B (.map es' clock') := by
      rw [r] at s2
      injection s2
    refine ⟨_, s1, tab_block t ?_, ⟨rfl, rfl, rfl, by simp [setBlock], fun j _ hj => ?_⟩⟩
    · rw [ew, heap_setBlock_same hb, heap_setBlock_same (heap_setBlock_same hb _)]
    · rw [heap_setBlock_other (heap_setBlock_same hb _) _ (fun e => hj (by rw [e])), heap_setBlock_other hb _ (fun e => hj (by rw [e]))]
end Go.Proofs.YtnmeiiaipacplaaGreat.Entry
namespace Go.Proofs.YtnmeiiaipacplaaGreat.ILotsFit
open Go.ChangeShapes Go.WideShapes Go.ChangeAt Go.RowKit BMem Bks IRead IHave ITrade ILists IBalsFit
open Lots (Says says_of NoOk qtyOf)
open Bals (T3 el3 val sumI upd ListOf)
open Tup5 (T5 el5)
open Tab (Tab Wf wf_no wf_amt)
def leftB (b : Bk) (k : Nat) (a i : Int) : Int := if kindOf b.ac a = 1 ∧ kindOf b.ic i = 2 then val (b.bs.take k) a i else 0
def leftL (b : Bk) (k : Nat) (a i : Int) : Int := leftB b b.bs.length a i - qtyOf (b.ls.take k) a i
theorem leftB_zero (b : Bk) (a i : Int) : leftB b 0 a i = 0 := by
  unfold leftB
  split <;> rfl
theorem leftB_yes {b : Bk} (hr : Bals.Right b.bs) {k : Nat} (hk : k < b.bs.length) (h : kindOf b.ac (el3 b.bs k).1 = 1 ∧ kindOf b.ic (el3 b.bs k).2.1 = 2) (a i : Int) : leftB b (k + 1) a i = upd (leftB b k) (el3 b.bs k).1 (el3 b.bs k).2.1 (el3 b.bs k).2.2 a i := by
  unfold leftB
  rw [Look.val_take hr hk]
  unfold upd
  by_cases e : a = (el3 b.bs k).1 ∧ i = (el3 b.bs k).2.1
  · rw [if_pos e, if_pos e, e.1, e.2, if_pos h]
  · rw [if_neg e, if_neg e]
theorem leftB_no {b : Bk} (hr : Bals.Right b.bs) {k : Nat} (hk : k < b.bs.length) (h : ¬ (kindOf b.ac (el3 b.bs k).1 = 1 ∧ kindOf b.ic (el3 b.bs k).2.1 = 2)) (a i : Int) : leftB b (k + 1) a i = leftB b k a i := by
  unfold leftB
  by_cases q : kindOf b.ac a = 1 ∧ kindOf b.ic i = 2
  · rw [if_pos q, if_pos q, Look.val_take hr hk]
    unfold upd
    rw [if_neg (fun e => h (by rw [← e.1, ← e.2]; exact q))]
  · rw [if_neg q, if_neg q]
theorem leftL_zero (b : Bk) (a i : Int) : leftL b 0 a i = leftB b b.bs.length a i := by
  unfold leftL
  simp [qtyOf]
theorem leftL_next {b : Bk} {k : Nat} (hk : k < b.ls.length) (a i : Int) : leftL b (k + 1) a i = upd (leftL b k) (el5 b.ls k).1 (el5 b.ls k).2.1 (leftL b k (el5 b.ls k).1 (el5 b.ls k).2.1 - (el5 b.ls k).2.2.2.1) a i := by
  unfold upd
  by_cases e : a = (el5 b.ls k).1 ∧ i = (el5 b.ls k).2.1
  · rw [if_pos e]
    unfold leftL
    rw [Lots.qtyOf_next hk, if_pos ⟨e.1.symm, e.2.symm⟩, e.1, e.2]
    omega
  · rw [if_neg e]
    unfold leftL
    rw [Lots.qtyOf_next hk, if_neg (fun r => e ⟨r.1.symm, r.2.symm⟩)]
    omega
theorem leftL_all (b : Bk) (a i : Int) : leftL b b.ls.length a i = leftT b a i := by
  unfold leftL leftT leftB
  rw [List.take_length, List.take_length]
theorem leftL_bd {b : Bk} (hl : Lists b) (k : Nat) (a i : Int) : -3000000000000000 ≤ leftL b k a i ∧ leftL b k a i ≤ 3000000000000000 := by
  obtain ⟨_, _, hb, hL, _⟩ := hl
  have h1 := (hb.val_in a i).1
  have h2 := Lots.take_le (ps := b.ls) (fun p hp => by
    obtain ⟨j, _, hj, rfl⟩ := Lots.mem_take (ps := b.ls) (k := b.ls.length) (p := p) (by rw [List.take_length]; exact hp)
    exact (hL.2.1 j hj).1) k a i
  have h3 := Lots.qty_pos (a := a) (i := i) (b.ls.take k) (fun p hp => by
    obtain ⟨j, _, hj, rfl⟩ := Lots.mem_take hp
    exact (hL.2.1 j hj).1)
  have h4 := hL.2.2 a i
  unfold leftL leftB
  unfold Bals.Amt at h1
  rw [List.take_length]
  split <;> omega
theorem list_none {f : Int → Int → Int} {qs : List T3} (h : ListOf f qs) : qs.length = 0 ↔ ∀ a i, f a i = 0 := by
  constructor
  · intro e a i
    rw [← h.2 a i, List.length_eq_zero_iff.1 e]
    rfl
  · intro e
    cases qs with
    | nil => rfl
    | cons p r =>
      have := (h.1.mem p).1 List.mem_cons_self
      rw [h.2, e] at this
      exact absurd this.2.symm this.1
theorem below_of_drew {w w' : World} (h : Below w.drew.heap.size w.drew w') : Below w.heap.size w w' := ⟨h.os, h.tape, h.output, h.size, h.block⟩
theorem St.grown {w W W' : World} {x : Bx} {M : Nat} (H : Rd w x) (h : St w W x) (k : W.grownBy W' (some M)) (hM : w.heap.size < M) : St w W' x := by
  have b : Below w.heap.size w W' := h.b.grown k (Nat.le_of_lt h.s) (fun j e => by cases e; omega)
  have ne : some w.heap.size ≠ some M := fun e => by cases e; omega
  exact ⟨H.below b, ⟨k.cell h.c.c0 ne, k.cell h.c.c1 ne, k.cell h.c.c2 ne, k.cell h.c.c3 ne, k.cell h.c.c4 ne, k.cell h.c.c5 ne⟩, b, Nat.lt_of_lt_of_le h.s k.size⟩
set_option maxRecDepth 100000 in
set_option maxHeartbeats 4000000 in
theorem iLotsFit (w : World) (x : Bx) (b : Bool) (h : Rd w x) (hl : Lists x.b) (hb : Says b (LotsFit x.b)) :
    Calls Tryz.prog 116 #[.agg #[.slice (some ⟨x.ga, 0, none⟩) x.b.ac.length x.ca, .slice (some ⟨x.gi, 0, none⟩) x.b.ic.length x.ci, .slice (some ⟨x.gb, 0, none⟩) x.b.bs.length x.cb, .slice (some ⟨x.gl, 0, none⟩) x.b.ls.length x.cl, .slice (some ⟨x.gt, 0, none⟩) x.b.ts.length x.ct, .int .i64 x.b.lot]] w fun e w' => e = .returned (.bool b) ∧ Below w.heap.size w w' := by
  have T := hide hb
  have L := hide hl
  have H := hide h
  have S0 := hide ((St.start h 36).step (one_more _ (.map #[] 0)))
  have nb := h.nb
  have nl := h.nl
  have n160 : x.b.bs.length ≤ 160 := hl.2.2.1.1
  have n120 : x.b.ls.length ≤ 120 := hl.2.2.2.1.1
  have TM := hide (Tab.tab_made (w.alloc (.cells #[.slice (some ⟨x.ga, 0, none⟩) x.b.ac.length x.ca, .slice (some ⟨x.gi, 0, none⟩) x.b.ic.length x.ci, .slice (some ⟨x.gb, 0, none⟩) x.b.bs.length x.cb, .slice (some ⟨x.gl, 0, none⟩) x.b.ls.length x.cl, .slice (some ⟨x.gt, 0, none⟩) x.b.ts.length x.ct, .int .i64 x.b.lot] 36)))
  have hmm := @run_makeMap Tryz.prog
  clear hb hl h
  go_enter Tryz.func116, Tryz.ntmps116
  go_wp2
  go_loopw [12] (fun i wr => ∃ (k : Nat), k ≤ x.b.bs.length ∧ i = .int .i64 k ∧ St w wr x ∧ Hid (Tab wr (w.heap.size + 1) k (leftB x.b k))) (fun i _ => x.b.bs.length - (intOf i).toNat)
  case atStart => exact ⟨0, by omega, rfl, unhide S0, hide ((by simpa using unhide TM : Tab _ (w.heap.size + 1) 0 (fun _ _ => 0)).congr (fun a i => (leftB_zero _ a i).symm))⟩
  case round =>
    obtain ⟨k, hk, rfl, hS, HT⟩ := hrel
    clear S0 TM
    by_cases t : k < x.b.bs.length
    · obtain ⟨d0, d1, d2⟩ := (hS.r.rb k t)
      obtain ⟨c0, c1, c2, c3, c4, c5⟩ := hS.c
      obtain ⟨r1, r2, r3, r4, _⟩ := (unhide L).2.2.1.2 k t
      have WF := hide (wf_no r1 r2)
      have WA := wf_amt r3
      have YES := hide (fun hh => leftB_yes (unhide L).2.2.1 t hh)
      have NO := hide (fun hh => leftB_no (unhide L).2.2.1 t hh)
      have wz := hS.s
      have S1 := hide (hS.step (one_more wr (.cells #[.int .i64 (el3 x.b.bs k).1, .int .i64 (el3 x.b.bs k).2.1, .int .i64 (el3 x.b.bs k).2.2] 119)))
      have T1 := hide ((unhide HT).below (one_more wr (.cells #[.int .i64 (el3 x.b.bs k).1, .int .i64 (el3 x.b.bs k).2.1, .int .i64 (el3 x.b.bs k).2.2] 119)))
      clear hS HT r1 r2 r3 r4
      generalize (el3 x.b.bs k).1 = y0 at *
      generalize (el3 x.b.bs k).2.1 = y1 at *
      generalize (el3 x.b.bs k).2.2 = y2 at *
      obtain ⟨b0, h0⟩ := says_of (kindOf x.b.ac y0 = 1)
      obtain ⟨b1, h1⟩ := says_of (kindOf x.b.ic y1 = 2)
      have H0 := hide h0
      have H1 := hide h1
      clear h0 h1
      go_wp2_with fail
      refine (iHolder _ x y0 b0 (unhide S1).r (unhide L).1 (unhide H0)).mono ?_
      rintro e w1 ⟨rfl, bb⟩
      have S2 := hide ((unhide S1).step bb)
      have T2 := hide ((unhide T1).below bb)
      have f0 : w1.cell? ⟨wr.heap.size, 0, none⟩ = some (.int .i64 y0) := (bb.cell (p := ⟨wr.heap.size, 0, none⟩) (by simp)).trans (by simp)
      have f1 : w1.cell? ⟨wr.heap.size, 1, none⟩ = some (.int .i64 y1) := (bb.cell (p := ⟨wr.heap.size, 1, none⟩) (by simp)).trans (by simp)
      have f2 : w1.cell? ⟨wr.heap.size, 2, none⟩ = some (.int .i64 y2) := (bb.cell (p := ⟨wr.heap.size, 2, none⟩) (by simp)).trans (by simp)
      have z1 : wr.heap.size < w1.heap.size := by have := bb.size; simp at this; omega
      clear bb c0 c1 c2 c3 c4 c5 d0 d1 d2 S1 T1
      obtain ⟨c0, c1, c2, c3, c4, c5⟩ := (unhide S2).c
      cases b0
      · have E := hide ((unhide NO) (fun hh => (unhide H0).no hh.1))
        clear YES NO
        go_wp2
        go_roundw
        case rel =>
          refine ⟨k + 1, by omega, by go_num, unhide S2, hide ?_⟩
          obtain ⟨D, o1, o2⟩ := (unhide T2).congr (fun a i => ((unhide E) a i).symm)
          exact ⟨D, o1.mono (by omega), o2⟩
        case measure => simp [intOf]; omega
      go_wp2_with fail
      refine (iPaper _ x y1 b1 (unhide S2).r (unhide L).2.1 (unhide H1)).mono ?_
      rintro e w2 ⟨rfl, bb⟩
      have S3 := hide ((unhide S2).step bb)
      have T3 := hide ((unhide T2).below bb)
      replace f0 : w2.cell? ⟨wr.heap.size, 0, none⟩ = some (.int .i64 y0) := (bb.cell (p := ⟨wr.heap.size, 0, none⟩) z1).trans f0
      replace f1 : w2.cell? ⟨wr.heap.size, 1, none⟩ = some (.int .i64 y1) := (bb.cell (p := ⟨wr.heap.size, 1, none⟩) z1).trans f1
      replace f2 : w2.cell? ⟨wr.heap.size, 2, none⟩ = some (.int .i64 y2) := (bb.cell (p := ⟨wr.heap.size, 2, none⟩) z1).trans f2
      clear bb c0 c1 c2 c3 c4 c5 S2 T2
      cases b1
      · have E := hide ((unhide NO) (fun hh => (unhide H1).no hh.2))
        clear YES NO
        go_wp2
        go_roundw
        case rel =>
          refine ⟨k + 1, by omega, by go_num, unhide S3, hide ?_⟩
          obtain ⟨D, o1, o2⟩ := (unhide T3).congr (fun a i => ((unhide E) a i).symm)
          exact ⟨D, o1.mono (by omega), o2⟩
        case measure => simp [intOf]; omega
      have E := hide ((unhide YES) ⟨(unhide H0).yes, (unhide H1).yes⟩)
      clear YES NO
      go_wp2_with (first | (at_mapUpdate; refine Tab.wp_put _ rfl _ _ _ 172 rfl Tryz.underlying172 (w.heap.size + 1) k _ rfl (unhide T3) (by omega) y0 y1 y2 rfl rfl (unhide WF) WA ?_; intro w3 t3 g3) | go_in)
      go_roundw
      case rel => exact ⟨k + 1, by omega, by go_num, St.grown (unhide H) (unhide S3) g3 (by omega), hide (t3.congr (fun a i => ((unhide E) a i).symm))⟩
      case measure => simp [intOf]; omega
    · obtain rfl : k = x.b.bs.length := by omega
      obtain ⟨c0, c1, c2, c3, c4, c5⟩ := hS.c
      have S1 := hide hS
      have T1 := hide ((unhide HT).congr (fun a i => (leftL_zero x.b a i).symm))
      clear hS HT
      go_wp2
      go_loopw [38] (fun i wr => ∃ (k : Nat), k ≤ x.b.ls.length ∧ i = .int .i64 k ∧ St w wr x ∧ Hid (Tab wr (w.heap.size + 1) (x.b.bs.length + k) (leftL x.b k)) ∧ Hid (∀ j, j < k → LotFit x.b (el5 x.b.ls j))) (fun i _ => x.b.ls.length - (intOf i).toNat)
      case atStart => exact ⟨0, by omega, rfl, unhide S1, T1, hide (fun i hi => absurd hi (by omega))⟩
      case round =>
        clear c0 c1 c2 c3 c4 c5 S1 T1 hk t
        obtain ⟨k, hk, rfl, hS, HT, HG⟩ := hrel
        by_cases t : k < x.b.ls.length
        · obtain ⟨d0, d1, d2, d3, d4⟩ := (hS.r.rl k t)
          obtain ⟨c0, c1, c2, c3, c4, c5⟩ := hS.c
          have BAD := hide (show ¬ LotFit x.b (el5 x.b.ls k) → b = false from fun hr => (unhide T).not (fun r => hr (r.1 k t)))
          have GOOD := hide (show LotFit x.b (el5 x.b.ls k) → ∀ i, i < k + 1 → LotFit x.b (el5 x.b.ls i) from fun hr i hi => by
            by_cases e : i = k
            · subst e; exact hr
            · exact (unhide HG) i (by omega))
          have FIT := hide (show LotFit x.b (el5 x.b.ls k) ↔ kindOf x.b.ac (el5 x.b.ls k).1 = 1 ∧ kindOf x.b.ic (el5 x.b.ls k).2.1 = 2 ∧ (el5 x.b.ls k).2.2.1 ≤ x.b.lot from Iff.rfl)
          have NX := hide (leftL_next t)
          obtain ⟨r1, r2, _, r4, _⟩ := ((unhide L).2.2.2.1.2.1 k t).1
          have WF := hide (wf_no r1 r2)
          have BD := leftL_bd (unhide L) k (el5 x.b.ls k).1 (el5 x.b.ls k).2.1
          have wz := hS.s
          have mz := (unhide HT).lt
          have S1 := hide (hS.step (one_more wr (.cells #[.int .i64 (el5 x.b.ls k).1, .int .i64 (el5 x.b.ls k).2.1, .int .i64 (el5 x.b.ls k).2.2.1, .int .i64 (el5 x.b.ls k).2.2.2.1, .int .i64 (el5 x.b.ls k).2.2.2.2] 123)))
          have T1 := hide ((unhide HT).below (one_more wr (.cells #[.int .i64 (el5 x.b.ls k).1, .int .i64 (el5 x.b.ls k).2.1, .int .i64 (el5 x.b.ls k).2.2.1, .int .i64 (el5 x.b.ls k).2.2.2.1, .int .i64 (el5 x.b.ls k).2.2.2.2] 123)))
          clear hS HT r1 r2
          generalize (el5 x.b.ls k).1 = y0 at *
          generalize (el5 x.b.ls k).2.1 = y1 at *
          generalize (el5 x.b.ls k).2.2.1 = y2 at *
          generalize (el5 x.b.ls k).2.2.2.1 = y3 at *
          generalize (el5 x.b.ls k).2.2.2.2 = y4 at *
          obtain ⟨b0, h0⟩ := says_of (kindOf x.b.ac y0 = 1)
          obtain ⟨b1, h1⟩ := says_of (kindOf x.b.ic y1 = 2)
          have H0 := hide h0
          have H1 := hide h1
          clear h0 h1
          go_wp2_with fail
          refine (iHolder _ x y0 b0 (unhide S1).r (unhide L).1 (unhide H0)).mono ?_
          rintro e w1 ⟨rfl, bb⟩
          have S2 := hide ((unhide S1).step bb)
          have T2 := hide ((unhide T1).below bb)
          have f0 : w1.cell? ⟨wr.heap.size, 0, none⟩ = some (.int .i64 y0) := (bb.cell (p := ⟨wr.heap.size, 0, none⟩) (by simp)).trans (by simp)
          have f1 : w1.cell? ⟨wr.heap.size, 1, none⟩ = some (.int .i64 y1) := (bb.cell (p := ⟨wr.heap.size, 1, none⟩) (by simp)).trans (by simp)
          have f2 : w1.cell? ⟨wr.heap.size, 2, none⟩ = some (.int .i64 y2) := (bb.cell (p := ⟨wr.heap.size, 2, none⟩) (by simp)).trans (by simp)
          have f3 : w1.cell? ⟨wr.heap.size, 3, none⟩ = some (.int .i64 y3) := (bb.cell (p := ⟨wr.heap.size, 3, none⟩) (by simp)).trans (by simp)
          have f4 : w1.cell? ⟨wr.heap.size, 4, none⟩ = some (.int .i64 y4) := (bb.cell (p := ⟨wr.heap.size, 4, none⟩) (by simp)).trans (by simp)
          have z1 : wr.heap.size < w1.heap.size := by have := bb.size; simp at this; omega
          clear bb c0 c1 c2 c3 c4 c5 d0 d1 d2 d3 d4 S1 T1
          obtain ⟨c0, c1, c2, c3, c4, c5⟩ := (unhide S2).c
          cases b0
          · have F := hide ((unhide BAD) (fun hh => (unhide H0).no ((unhide FIT).1 hh).1))
            clear BAD GOOD FIT T
            go_wp2
            go_ret
            exact ⟨by rw [unhide F]; rfl, (unhide S2).b⟩
          go_wp2_with fail
          refine (iPaper _ x y1 b1 (unhide S2).r (unhide L).2.1 (unhide H1)).mono ?_
          rintro e w2 ⟨rfl, bb⟩
          have S3 := hide ((unhide S2).step bb)
          have T3 := hide ((unhide T2).below bb)
          replace f0 : w2.cell? ⟨wr.heap.size, 0, none⟩ = some (.int .i64 y0) := (bb.cell (p := ⟨wr.heap.size, 0, none⟩) z1).trans f0
          replace f1 : w2.cell? ⟨wr.heap.size, 1, none⟩ = some (.int .i64 y1) := (bb.cell (p := ⟨wr.heap.size, 1, none⟩) z1).trans f1
          replace f2 : w2.cell? ⟨wr.heap.size, 2, none⟩ = some (.int .i64 y2) := (bb.cell (p := ⟨wr.heap.size, 2, none⟩) z1).trans f2
          replace f3 : w2.cell? ⟨wr.heap.size, 3, none⟩ = some (.int .i64 y3) := (bb.cell (p := ⟨wr.heap.size, 3, none⟩) z1).trans f3
          replace f4 : w2.cell? ⟨wr.heap.size, 4, none⟩ = some (.int .i64 y4) := (bb.cell (p := ⟨wr.heap.size, 4, none⟩) z1).trans f4
          have z2 : wr.heap.size < w2.heap.size := Nat.lt_of_lt_of_le z1 bb.size
          clear bb c0 c1 c2 c3 c4 c5 S2 T2
          have c5 := (unhide S3).c.c5
          cases b1
          · have F := hide ((unhide BAD) (fun hh => (unhide H1).no ((unhide FIT).1 hh).2.1))
            clear BAD GOOD FIT T
            go_wp2
            go_ret
            exact ⟨by rw [unhide F]; rfl, (unhide S3).b⟩
          by_cases q : y2 > x.b.lot
          · have F := hide ((unhide BAD) (fun hh => by have := ((unhide FIT).1 hh).2.2; omega))
            clear BAD GOOD FIT T
            go_wp2
            go_ret
            exact ⟨by rw [unhide F]; rfl, (unhide S3).b⟩
          have G := hide ((unhide GOOD) ((unhide FIT).2 ⟨(unhide H0).yes, (unhide H1).yes, by omega⟩))
          have hq : decide (y2 > x.b.lot) = false := decide_eq_false q
          clear BAD GOOD FIT q
          go_wp2_with fail
          clear c5
          generalize hfv : leftL x.b k y0 y1 = fv at *
          have FV := hide hfv
          have wrap1 : IntKind.i64.wrap (fv - y3) = fv - y3 := by rw [IntKind.wrap_i64]; omega
          have WV : (Lit.int .i64 (fv - y3)).wf = true := WalkArith.wf_i64 (by omega)
          clear hfv
          have M1 := hide (fun (W : World) (bW : Below w2.heap.size w2 W) => Entry.entry_run ((unhide T3).below bW) (by omega) (unhide WF))
          go_region_held3 (fun w' => w'.cell? ⟨wr.heap.size, 0, none⟩ = some (.int .i64 y0) ∧ w'.cell? ⟨wr.heap.size, 1, none⟩ = some (.int .i64 y1) ∧ w'.cell? ⟨wr.heap.size, 2, none⟩ = some (.int .i64 y2) ∧ w'.cell? ⟨wr.heap.size, 3, none⟩ = some (.int .i64 y3) ∧ w'.cell? ⟨wr.heap.size, 4, none⟩ = some (.int .i64 y4)) (go_keep)
            (first | (go_at_call 154; refine (CmpL.keyL y0 y1 y2 y3 y4 w2.drew).mono ?_; rintro e w3 ⟨rfl, bb⟩; have bW : Below w2.heap.size w2 w3 := below_of_drew bb; have t3 := (unhide T3).below bW; have l3 := Post.look_run t3 (unhide WF); rw [unhide FV] at l3; obtain ⟨v0, st, w4, E4, t4, g4, ST⟩ := (unhide M1) w3 bW; have l4 := Post.look_run t4 (unhide WF); rw [unhide FV] at l4; obtain ⟨w5, E5, t5, g5⟩ := ST (fv - y3) WV; replace E5 : (Instr.entryStore 172 (.map (some (w.heap.size + 1))) (.int .i64 (st : Int)) (.int .i64 (fv - y3))).run Tryz.prog w4 = .ok () w5 := E5; have ne : some wr.heap.size ≠ some (w.heap.size + 1) := (fun e => by injection e; omega); have p0 : w3.cell? ⟨wr.heap.size, 0, none⟩ = some (.int .i64 y0) := (bW.cell (p := ⟨wr.heap.size, 0, none⟩) z2).trans f0; have q0 := g4.cell p0 ne; have o0 := g5.cell p0 ne; have p1 : w3.cell? ⟨wr.heap.size, 1, none⟩ = some (.int .i64 y1) := (bW.cell (p := ⟨wr.heap.size, 1, none⟩) z2).trans f1; have q1 := g4.cell p1 ne; have o1 := g5.cell p1 ne; have p2 : w3.cell? ⟨wr.heap.size, 2, none⟩ = some (.int .i64 y2) := (bW.cell (p := ⟨wr.heap.size, 2, none⟩) z2).trans f2; have q2 := g4.cell p2 ne; have o2 := g5.cell p2 ne; have p3 : w3.cell? ⟨wr.heap.size, 3, none⟩ = some (.int .i64 y3) := (bW.cell (p := ⟨wr.heap.size, 3, none⟩) z2).trans f3; have q3 := g4.cell p3 ne; have o3 := g5.cell p3 ne; have p4 : w3.cell? ⟨wr.heap.size, 4, none⟩ = some (.int .i64 y4) := (bW.cell (p := ⟨wr.heap.size, 4, none⟩) z2).trans f4; have q4 := g4.cell p4 ne; have o4 := g5.cell p4 ne; clear bb ST))
          all_goals
            have S4 := hide (St.grown (unhide H) ((unhide S3).step bW) g5 (by omega))
            have T5 := hide (t5.congr (fun a i => (by rw [unhide NX] : leftL x.b (k + 1) a i = upd (leftL x.b k) y0 y1 (fv - y3) a i).symm))
            clear t3 l3 E4 t4 g4 l4 t5 g5 E5 p0 p1 p2 p3 p4 q0 q1 q2 q3 q4 o0 o1 o2 o3 o4 f0 f1 f2 f3 f4 S3 T3 M1 bW NX
            go_wp2
            go_roundw
            case rel => exact ⟨k + 1, by omega, by go_num, unhide S4, T5, G⟩
            case measure => simp [intOf]; omega
        · obtain rfl : k = x.b.ls.length := by omega
          have ALL := hide (show ∀ j, j < x.b.ls.length → LotFit x.b (el5 x.b.ls j) from unhide HG)
          have S1 := hide hS
          have T1 := hide ((unhide HT).congr (fun a i => leftL_all x.b a i))
          clear hS HT HG
          go_wp2_with fail
          refine (Out.iBals _ (w.heap.size + 1) _ _ (by omega) (unhide T1)).mono ?_
          rintro e w1 ⟨qs, g, c, hq, hn, rfl, ho, bb⟩
          have B1 := hide ((unhide S1).b.trans (bb.mono (Nat.le_of_lt (unhide S1).s)))
          have hd : ((qs.length : Int) == 0) = b := by
            have hz := (list_none hq).trans (lots_impl (unhide ALL))
            by_cases z : qs.length = 0
            · rw [(unhide T).of (hz.1 z), z]; rfl
            · rw [(unhide T).not (fun r => z (hz.2 r))]
              simp only [beq_eq_false_iff_ne]
              omega
          clear bb ho hq hn
          go_wp2
          go_ret
          exact ⟨rfl, unhide B1⟩
end Go.Proofs.YtnmeiiaipacplaaGreat.ILotsFit
namespace Go.Proofs.YtnmeiiaipacplaaGreat.SLots
open Go.ChangeShapes Go.WideShapes Go.ChangeAt Go.RowKit BMem Bks IRead IHave ITrade ILists IBalsFit SBals
open Lots (Says says_of NoOk ownL restL)
open Bals (T3 el3 val sumI)
open Tup5 (T5 el5)
open Takes (sumQ)
open ILotsFit (below_of_drew)
def Even (b : Bk) (j k : Nat) : Prop := (Chart.el b.ac j).2 = 1 → (Chart.el b.ic k).2 = 2 → sumQ (ownL b.ls (Chart.el b.ac j).1 (Chart.el b.ic k).1) = val b.bs (Chart.el b.ac j).1 (Chart.el b.ic k).1
set_option maxRecDepth 100000 in
set_option maxHeartbeats 8000000 in
theorem sLots (w : World) (x : Bx) (b : Bool) (h : Rd w x) (hl : Lists x.b) (hb : Says b (LotsFit x.b)) :
    Calls Tryz.prog 89 #[.agg #[.slice (some ⟨x.ga, 0, none⟩) x.b.ac.length x.ca, .slice (some ⟨x.gi, 0, none⟩) x.b.ic.length x.ci, .slice (some ⟨x.gb, 0, none⟩) x.b.bs.length x.cb, .slice (some ⟨x.gl, 0, none⟩) x.b.ls.length x.cl, .slice (some ⟨x.gt, 0, none⟩) x.b.ts.length x.ct, .int .i64 x.b.lot]] w fun e w' => e = .returned (.bool b) ∧ Below w.heap.size w w' := by
  have T := hide hb
  have L := hide hl
  have S0 := hide (St.start h 36)
  have nl := h.nl
  have na := h.na
  have ni := h.ni
  have nb := h.nb
  have n120 : x.b.ls.length ≤ 120 := hl.2.2.2.1.1
  clear hb hl h
  go_enter Tryz.func89, Tryz.ntmps89
  go_wp2
  go_loopw [3] (fun i wr => ∃ (k : Nat), k ≤ x.b.ls.length ∧ i = .int .i64 k ∧ St w wr x ∧ Hid (∀ j, j < k → LotFit x.b (el5 x.b.ls j))) (fun i _ => x.b.ls.length - (intOf i).toNat)
  case atStart => exact ⟨0, by omega, rfl, unhide S0, hide (fun i hi => absurd hi (by omega))⟩
  case round =>
    obtain ⟨k, hk, rfl, hS, HG⟩ := hrel
    clear S0
    by_cases t : k < x.b.ls.length
    · obtain ⟨d0, d1, d2, d3, d4⟩ := (hS.r.rl k t)
      obtain ⟨c0, c1, c2, c3, c4, c5⟩ := hS.c
      have BAD := hide (show ¬ LotFit x.b (el5 x.b.ls k) → b = false from fun hr => (unhide T).not (fun r => hr (r.1 k t)))
      have GOOD := hide (show LotFit x.b (el5 x.b.ls k) → ∀ i, i < k + 1 → LotFit x.b (el5 x.b.ls i) from fun hr i hi => by
        by_cases e : i = k
        · subst e; exact hr
        · exact (unhide HG) i (by omega))
      have FIT := hide (show LotFit x.b (el5 x.b.ls k) ↔ kindOf x.b.ac (el5 x.b.ls k).1 = 1 ∧ kindOf x.b.ic (el5 x.b.ls k).2.1 = 2 ∧ (el5 x.b.ls k).2.2.1 ≤ x.b.lot from Iff.rfl)
      have wz := hS.s
      have S1 := hide (hS.step (one_more wr (.cells #[.int .i64 (el5 x.b.ls k).1, .int .i64 (el5 x.b.ls k).2.1, .int .i64 (el5 x.b.ls k).2.2.1, .int .i64 (el5 x.b.ls k).2.2.2.1, .int .i64 (el5 x.b.ls k).2.2.2.2] 123)))
      clear hS
      generalize LotFit x.b (el5 x.b.ls k) = FP at *
      generalize (el5 x.b.ls k).1 = y0 at *
      generalize (el5 x.b.ls k).2.1 = y1 at *
      generalize (el5 x.b.ls k).2.2.1 = y2 at *
      generalize (el5 x.b.ls k).2.2.2.1 = y3 at *
      generalize (el5 x.b.ls k).2.2.2.2 = y4 at *
      generalize hK : kindOf x.b.ac y0 = K at *
      generalize hJ : kindOf x.b.ic y1 = J at *
      have HK := hide hK
      have HJ := hide hJ
      clear hK hJ
      go_wp2_with fail
      refine (sKindA _ x y0 K (unhide S1).r (unhide L).1 (unhide HK)).mono ?_
      rintro e w1 ⟨rfl, bb⟩
      have S2 := hide ((unhide S1).step bb)
      have f1 : w1.cell? ⟨wr.heap.size, 1, none⟩ = some (.int .i64 y1) := (bb.cell (p := ⟨wr.heap.size, 1, none⟩) (by simp)).trans (by simp)
      have f2 : w1.cell? ⟨wr.heap.size, 2, none⟩ = some (.int .i64 y2) := (bb.cell (p := ⟨wr.heap.size, 2, none⟩) (by simp)).trans (by simp)
      have z1 : wr.heap.size < w1.heap.size := by have := bb.size; simp at this; omega
      clear bb c0 c1 c2 c3 c4 c5 d0 d1 d2 d3 d4
      obtain ⟨c0, c1, c2, c3, c4, c5⟩ := (unhide S2).c
      by_cases q0 : K = 1
      · have hq0 : (K != 1) = false := by simp [q0]
        have Q0 := hide q0
        clear q0
        go_wp2_with fail
        refine (sKindI _ x y1 J (unhide S2).r (unhide L).2.1 (unhide HJ)).mono ?_
        rintro e w2 ⟨rfl, bb⟩
        have S3 := hide ((unhide S2).step bb)
        replace f2 : w2.cell? ⟨wr.heap.size, 2, none⟩ = some (.int .i64 y2) := (bb.cell (p := ⟨wr.heap.size, 2, none⟩) z1).trans f2
        clear bb c0 c1 c2 c3 c4 c5
        obtain ⟨c0, c1, c2, c3, c4, c5⟩ := (unhide S3).c
        by_cases q1 : J = 2
        · have hq1 : (J != 2) = false := by simp [q1]
          by_cases q2 : y2 > x.b.lot
          · have F := hide ((unhide BAD) (fun hh => by have := ((unhide FIT).1 hh).2.2; omega))
            clear BAD GOOD FIT T q1
            go_wp2
            go_ret
            exact ⟨by rw [unhide F]; rfl, (unhide S3).b⟩
          · have G := hide ((unhide GOOD) ((unhide FIT).2 ⟨unhide Q0, q1, by omega⟩))
            have hq2 : decide (y2 > x.b.lot) = false := decide_eq_false q2
            clear BAD GOOD FIT q1 q2
            go_wp2
            go_roundw
            case rel => exact ⟨k + 1, by omega, by go_num, unhide S3, G⟩
            case measure => simp [intOf]; omega
        · have F := hide ((unhide BAD) (fun hh => q1 ((unhide FIT).1 hh).2.1))
          have hq1 : (J != 2) = true := by simp [q1]
          clear BAD GOOD FIT T q1
          go_wp2
          go_ret
          exact ⟨by rw [unhide F]; rfl, (unhide S3).b⟩
      · have F := hide ((unhide BAD) (fun hh => q0 ((unhide FIT).1 hh).1))
        have hq : (K != 1) = true := by simp [q0]
        clear BAD GOOD FIT T q0
        go_wp2
        go_ret
        exact ⟨by rw [unhide F]; rfl, (unhide S2).b⟩
    · have ALL := hide (show ∀ j, j < x.b.ls.length → LotFit x.b (el5 x.b.ls j) from fun j hj => (unhide HG) j (by omega))
      have IFF := hide (lots_spec (unhide L).1 (unhide L).2.1 (unhide ALL))
      obtain ⟨c0, c1, c2, c3, c4, c5⟩ := hS.c
      have S1 := hide hS
      clear hS HG
      go_wp2
      go_loopw [5] (fun i wr => ∃ (j : Nat), j ≤ x.b.ac.length ∧ i = .int .i64 j ∧ St w wr x ∧ Hid (∀ j', j' < j → ∀ k, k < x.b.ic.length → Even x.b j' k)) (fun i _ => x.b.ac.length - (intOf i).toNat)
      case atStart => exact ⟨0, by omega, rfl, unhide S1, hide (fun i hi => absurd hi (by omega))⟩
      case round =>
        clear c0 c1 c2 c3 c4 c5 S1 hk t
        obtain ⟨j, hj, rfl, hS, HG⟩ := hrel
        obtain ⟨c0, c1, c2, c3, c4, c5⟩ := hS.c
        have S1 := hide hS
        clear hS
        by_cases t : j < x.b.ac.length
        · go_wp2
          go_loopw [6] (fun i wr => ∃ (k : Nat), k ≤ x.b.ic.length ∧ i = .int .i64 k ∧ St w wr x ∧ Hid (∀ k', k' < k → Even x.b j k')) (fun i _ => x.b.ic.length - (intOf i).toNat)
          case atStart => exact ⟨0, by omega, rfl, unhide S1, hide (fun i hi => absurd hi (by omega))⟩
          case round =>
            clear c0 c1 c2 c3 c4 c5 S1
            obtain ⟨k, hk, rfl, hS, HK⟩ := hrel
            obtain ⟨c0, c1, c2, c3, c4, c5⟩ := hS.c
            by_cases u : k < x.b.ic.length
            · obtain ⟨a0, a1⟩ := hS.r.ra j t
              obtain ⟨i0, i1⟩ := hS.r.ri k u
              have S2 := hide hS
              have wz := hS.s
              clear hS
              have BAD := hide (show ¬ Even x.b j k → b = false from fun hr => (unhide T).not (fun r => hr (((unhide IFF).1 r) j t k u)))
              have GOOD := hide (show Even x.b j k → ∀ i, i < k + 1 → Even x.b j i from fun hr i hi => by
                by_cases e : i = k
                · subst e; exact hr
                · exact (unhide HK) i (by omega))
              have DEF := hide (show Even x.b j k ↔ ((Chart.el x.b.ac j).2 = 1 → (Chart.el x.b.ic k).2 = 2 → sumQ (ownL x.b.ls (Chart.el x.b.ac j).1 (Chart.el x.b.ic k).1) = val x.b.bs (Chart.el x.b.ac j).1 (Chart.el x.b.ic k).1) from Iff.rfl)
              generalize Even x.b j k = EP at *
              generalize (Chart.el x.b.ac j).1 = y0 at *
              generalize (Chart.el x.b.ac j).2 = y1 at *
              generalize (Chart.el x.b.ic k).1 = z0 at *
              generalize (Chart.el x.b.ic k).2 = z1 at *
              by_cases q0 : y1 = 1
              · by_cases q1 : z1 = 2
                · have DEF2 := hide (show EP ↔ sumQ (ownL x.b.ls y0 z0) = val x.b.bs y0 z0 from (unhide DEF).trans ⟨fun hh => hh q0 q1, fun hh _ _ => hh⟩)
                  have hq0 : (y1 == 1) = true := by simp [q0]
                  have hq1 : (z1 == 2) = true := by simp [q1]
                  have kj : (0 : Int) ≤ (j : Int) := by omega
                  have kj2 : (j : Int) < (x.b.ac.length : Int) := by omega
                  have kk : (0 : Int) ≤ (k : Int) := by omega
                  have kk2 : (k : Int) < (x.b.ic.length : Int) := by omega
                  clear DEF q0 q1
                  go_wp2_with fail
                  have ga := (unhide S2).r.la
                  have gi := (unhide S2).r.li
                  go_region_held3 (fun w' => w'.cell? ⟨w.heap.size, 0, none⟩ = some (.slice (some ⟨x.ga, 0, none⟩) x.b.ac.length x.ca) ∧ w'.cell? ⟨w.heap.size, 1, none⟩ = some (.slice (some ⟨x.gi, 0, none⟩) x.b.ic.length x.ci) ∧ w'.cell? ⟨w.heap.size, 2, none⟩ = some (.slice (some ⟨x.gb, 0, none⟩) x.b.bs.length x.cb) ∧ w'.cell? ⟨w.heap.size, 3, none⟩ = some (.slice (some ⟨x.gl, 0, none⟩) x.b.ls.length x.cl) ∧ w'.cell? ⟨x.ga, j * 2, none⟩ = some (.int .i64 y0) ∧ w'.cell? ⟨x.gi, k * 2, none⟩ = some (.int .i64 z0)) (go_keep)
                    (first | (go_at_call 123; refine (SSplit.sSplit wr.drew x.gl _ x.cl x.b.ls y0 z0 rfl (by omega) (unhide S2).r.ll (unhide S2).r.rl).mono ?_; rintro e w3 ⟨g1, k1, g2, k2, rfl, o1, o2, ne, bb⟩; have bW : Below wr.heap.size wr w3 := below_of_drew bb; have pc0 : w3.cell? ⟨w.heap.size, 0, none⟩ = some (.slice (some ⟨x.ga, 0, none⟩) x.b.ac.length x.ca) := (bW.cell (p := ⟨w.heap.size, 0, none⟩) wz).trans c0; have pc1 : w3.cell? ⟨w.heap.size, 1, none⟩ = some (.slice (some ⟨x.gi, 0, none⟩) x.b.ic.length x.ci) := (bW.cell (p := ⟨w.heap.size, 1, none⟩) wz).trans c1; have pc2 : w3.cell? ⟨w.heap.size, 2, none⟩ = some (.slice (some ⟨x.gb, 0, none⟩) x.b.bs.length x.cb) := (bW.cell (p := ⟨w.heap.size, 2, none⟩) wz).trans c2; have pc3 : w3.cell? ⟨w.heap.size, 3, none⟩ = some (.slice (some ⟨x.gl, 0, none⟩) x.b.ls.length x.cl) := (bW.cell (p := ⟨w.heap.size, 3, none⟩) wz).trans c3; have pa0 : w3.cell? ⟨x.ga, j * 2, none⟩ = some (.int .i64 y0) := (bW.cell (p := ⟨x.ga, j * 2, none⟩) ga).trans a0; have pi0 : w3.cell? ⟨x.gi, k * 2, none⟩ = some (.int .i64 z0) := (bW.cell (p := ⟨x.gi, k * 2, none⟩) gi).trans i0))
                  have S3 := hide ((unhide S2).step bW)
                  have O1 := hide o1
                  have l1 := o1.lt.2
                  clear c0 c1 c2 c3 c4 c5 a0 a1 i0 i1 bb bW o1 o2 ne
                  obtain ⟨ps1, ps2, ps3⟩ := Takes.own_pos (unhide L).2.2.2.1 y0 z0
                  have P1 := hide ps1
                  have n1 : (ownL x.b.ls y0 z0).length ≤ 1048576 := Nat.le_trans (List.length_filter_le _ _) nl
                  have w3z := (unhide S3).s
                  have ga3 := (unhide S3).r.la
                  have gi3 := (unhide S3).r.li
                  clear ps1 ps3
                  generalize hQ : sumQ (ownL x.b.ls y0 z0) = QV at *
                  generalize hV : val x.b.bs y0 z0 = VV at *
                  have HQ := hide hQ
                  have HV := hide hV
                  clear hQ hV
                  go_wp2_with fail
                  go_region_held3 (fun w' => w'.cell? ⟨w.heap.size, 0, none⟩ = some (.slice (some ⟨x.ga, 0, none⟩) x.b.ac.length x.ca) ∧ w'.cell? ⟨w.heap.size, 1, none⟩ = some (.slice (some ⟨x.gi, 0, none⟩) x.b.ic.length x.ci) ∧ w'.cell? ⟨w.heap.size, 2, none⟩ = some (.slice (some ⟨x.gb, 0, none⟩) x.b.bs.length x.cb) ∧ w'.cell? ⟨w.heap.size, 3, none⟩ = some (.slice (some ⟨x.gl, 0, none⟩) x.b.ls.length x.cl) ∧ w'.cell? ⟨x.ga, j * 2, none⟩ = some (.int .i64 y0) ∧ w'.cell? ⟨x.gi, k * 2, none⟩ = some (.int .i64 z0)) (go_keep)
                    (first | (go_at_call 137; refine (SSplit.sQty w3.drew g1 _ k1 (ownL x.b.ls y0 z0) rfl n1 (unhide O1).at (unhide P1) (by rw [unhide HQ]; exact ps2)).mono ?_; rintro e w4 ⟨he, bb⟩; rw [unhide HQ] at he; subst he; have bW : Below w3.heap.size w3 w4 := below_of_drew bb; have qc0 : w4.cell? ⟨w.heap.size, 0, none⟩ = some (.slice (some ⟨x.ga, 0, none⟩) x.b.ac.length x.ca) := (bW.cell (p := ⟨w.heap.size, 0, none⟩) w3z).trans pc0; have qc1 : w4.cell? ⟨w.heap.size, 1, none⟩ = some (.slice (some ⟨x.gi, 0, none⟩) x.b.ic.length x.ci) := (bW.cell (p := ⟨w.heap.size, 1, none⟩) w3z).trans pc1; have qc2 : w4.cell? ⟨w.heap.size, 2, none⟩ = some (.slice (some ⟨x.gb, 0, none⟩) x.b.bs.length x.cb) := (bW.cell (p := ⟨w.heap.size, 2, none⟩) w3z).trans pc2; have qc3 : w4.cell? ⟨w.heap.size, 3, none⟩ = some (.slice (some ⟨x.gl, 0, none⟩) x.b.ls.length x.cl) := (bW.cell (p := ⟨w.heap.size, 3, none⟩) w3z).trans pc3; have qa0 : w4.cell? ⟨x.ga, j * 2, none⟩ = some (.int .i64 y0) := (bW.cell (p := ⟨x.ga, j * 2, none⟩) ga3).trans pa0; have qi0 : w4.cell? ⟨x.gi, k * 2, none⟩ = some (.int .i64 z0) := (bW.cell (p := ⟨x.gi, k * 2, none⟩) gi3).trans pi0) | (go_at_call 66; refine (Look.sOf w4 x.gb _ x.cb x.b.bs y0 z0 rfl nb ((unhide S3).r.below bW).rb).mono ?_; rintro e w5 ⟨he, rfl⟩; rw [unhide HV] at he; subst he))
                  have S4 := hide ((unhide S3).step bW)
                  clear bb bW qc0 qc1 qc2 qc3 qa0 qi0 pc0 pc1 pc2 pc3 pa0 pi0
                  by_cases q2 : QV = VV
                  · have G := hide ((unhide GOOD) ((unhide DEF2).2 q2))
                    have hq2 : (QV != VV) = false := by simp [q2]
                    clear BAD GOOD DEF2 q2
                    go_wp2
                    go_roundw
                    case rel => exact ⟨k + 1, by omega, by go_num, unhide S4, G⟩
                    case measure => simp [intOf]; omega
                  · have F := hide ((unhide BAD) (fun hh => q2 ((unhide DEF2).1 hh)))
                    have hq2 : (QV != VV) = true := by simp [q2]
                    clear BAD GOOD DEF2 T q2
                    go_wp2
                    go_ret
                    exact ⟨by rw [unhide F]; rfl, (unhide S4).b⟩
                · have G := hide ((unhide GOOD) ((unhide DEF).2 (fun _ e => absurd e q1)))
                  have hq0 : (y1 == 1) = true := by simp [q0]
                  have hq1 : (z1 == 2) = false := by simp [q1]
                  clear BAD GOOD DEF q0 q1
                  go_wp2
                  go_roundw
                  case rel => exact ⟨k + 1, by omega, by go_num, unhide S2, G⟩
                  case measure => simp [intOf]; omega
              · have G := hide ((unhide GOOD) ((unhide DEF).2 (fun e _ => absurd e q0)))
                have hq0 : (y1 == 1) = false := by simp [q0]
                clear BAD GOOD DEF q0
                go_wp2
                go_roundw
                case rel => exact ⟨k + 1, by omega, by go_num, unhide S2, G⟩
                case measure => simp [intOf]; omega
            · have G := hide (show ∀ j', j' < j + 1 → ∀ k, k < x.b.ic.length → Even x.b j' k from fun j' hj' k' hk' => by
                by_cases e : j' = j
                · subst e; exact (unhide HK) k' (by omega)
                · exact (unhide HG) j' (by omega) k' hk')
              have S2 := hide hS
              clear hS
              go_wp2
              go_roundw
              case rel => exact ⟨j + 1, by omega, by go_num, unhide S2, G⟩
              case measure => simp [intOf]; omega
        · have F := hide ((unhide T).of ((unhide IFF).2 (fun j' hj' k hk => (unhide HG) j' (by omega) k hk)))
          go_wp2
          go_ret
          exact ⟨by rw [unhide F]; rfl, (unhide S1).b⟩
end Go.Proofs.YtnmeiiaipacplaaGreat.SLots
namespace Go.Proofs.YtnmeiiaipacplaaGreat.SBooksOk
open Go.ChangeShapes Go.WideShapes Go.ChangeAt Go.RowKit BMem Bks IRead IHave ITrade ILists IBalsFit SBals SLots
open Lots (Says says_of NoOk)
open Tup8 (T8 el8)
theorem sOksA (w : World) (x : Bx) (ok : Bool) (h : Rd w x) (hok : Chart.Says ok 20 4 x.b.ac) : Calls Tryz.prog 83 #[.slice (some ⟨x.ga, 0, none⟩) x.b.ac.length x.ca] w fun e w' => e = .returned (.bool ok) ∧ Below w.heap.size w w' :=
  (AccountSOk.sOk w x.ga _ x.ca x.b.ac ok rfl h.na h.ra hok).mono fun e w' ⟨h1, q, h2⟩ => ⟨h1, by rw [h2]; exact below_drewN (Below.refl _ _) q⟩
theorem sOksI (w : World) (x : Bx) (ok : Bool) (h : Rd w x) (hok : Chart.Says ok 8 2 x.b.ic) : Calls Tryz.prog 84 #[.slice (some ⟨x.gi, 0, none⟩) x.b.ic.length x.ci] w fun e w' => e = .returned (.bool ok) ∧ Below w.heap.size w w' :=
  (InstrSOk.sOk w x.gi _ x.ci x.b.ic ok rfl h.ni h.ri hok).mono fun e w' ⟨h1, q, h2⟩ => ⟨h1, by rw [h2]; exact below_drewN (Below.refl _ _) q⟩
set_option maxRecDepth 100000 in
set_option maxHeartbeats 8000000 in
theorem sBooksOk (w : World) (x : Bx) (b : Bool) (h : Rd w x) (hb : Says b (Ok x.b)) :
    Calls Tryz.prog 28 #[.agg #[.slice (some ⟨x.ga, 0, none⟩) x.b.ac.length x.ca, .slice (some ⟨x.gi, 0, none⟩) x.b.ic.length x.ci, .slice (some ⟨x.gb, 0, none⟩) x.b.bs.length x.cb, .slice (some ⟨x.gl, 0, none⟩) x.b.ls.length x.cl, .slice (some ⟨x.gt, 0, none⟩) x.b.ts.length x.ct, .int .i64 x.b.lot]] w fun e w' => e = .returned (.bool b) ∧ Below w.heap.size w w' := by
  have T := hide hb
  have S0 := hide (St.start h 36)
  have nb := h.nb
  have nl := h.nl
  have nt := h.nt
  obtain ⟨b0, h0⟩ := Chart.says_of 20 4 x.b.ac
  obtain ⟨b1, h1⟩ := Chart.says_of 8 2 x.b.ic
  obtain ⟨b2, h2⟩ := Bals.says_of (Bals.Right x.b.bs)
  obtain ⟨b3, h3⟩ := says_of (Lots.Right x.b.ls)
  obtain ⟨b4, h4⟩ := says_of (TRight x.b.ts)
  obtain ⟨b5, h5⟩ := says_of (0 ≤ x.b.lot ∧ x.b.lot ≤ 1000000000)
  obtain ⟨b6, h6⟩ := says_of (BalsFit x.b)
  obtain ⟨b7, h7⟩ := says_of (LotsFit x.b)
  have H0 := hide h0
  have H1 := hide h1
  have H2 := hide h2
  have H3 := hide h3
  have H4 := hide h4
  have H5 := hide h5
  have H6 := hide h6
  have H7 := hide h7
  clear hb h h0 h1 h2 h3 h4 h5 h6 h7
  go_enter Tryz.func28, Tryz.ntmps28
  go_wp2_with fail
  refine (sOksA _ x b0 (unhide S0).r (unhide H0)).mono ?_
  rintro e w1 ⟨rfl, bb⟩
  have S1 := hide ((unhide S0).step bb)
  clear bb
  obtain ⟨c0, c1, c2, c3, c4, c5⟩ := (unhide S1).c
  cases b0
  · have F := hide ((unhide T).not (fun hh => (unhide H0).no hh.1.1))
    clear T
    go_wp2
    go_ret
    exact ⟨by rw [unhide F]; rfl, (unhide S1).b⟩
  go_wp2_with fail
  refine (sOksI _ x b1 (unhide S1).r (unhide H1)).mono ?_
  rintro e w2 ⟨rfl, bb⟩
  have S2 := hide ((unhide S1).step bb)
  clear bb
  clear c0 c1 c2 c3 c4 c5
  obtain ⟨c0, c1, c2, c3, c4, c5⟩ := (unhide S2).c
  cases b1
  · have F := hide ((unhide T).not (fun hh => (unhide H1).no hh.1.2.1))
    clear T
    go_wp2
    go_ret
    exact ⟨by rw [unhide F]; rfl, (unhide S2).b⟩
  go_wp2_with fail
  refine (SOk3.sOk _ x.gb _ x.cb x.b.bs b2 rfl nb (unhide S2).r.lb (unhide S2).r.rb (unhide H2)).mono ?_
  rintro e w3 ⟨rfl, bb⟩
  have S3 := hide ((unhide S2).step bb)
  clear bb
  clear c0 c1 c2 c3 c4 c5
  obtain ⟨c0, c1, c2, c3, c4, c5⟩ := (unhide S3).c
  cases b2
  · have F := hide ((unhide T).not (fun hh => (unhide H2).no hh.1.2.2.1))
    clear T
    go_wp2
    go_ret
    exact ⟨by rw [unhide F]; rfl, (unhide S3).b⟩
  go_wp2_with fail
  refine (SOk5.sOk _ x.gl _ x.cl x.b.ls b3 rfl nl (unhide S3).r.ll (unhide S3).r.rl (unhide H3)).mono ?_
  rintro e w4 ⟨rfl, bb⟩
  have S4 := hide ((unhide S3).step bb)
  clear bb
  clear c0 c1 c2 c3 c4 c5
  obtain ⟨c0, c1, c2, c3, c4, c5⟩ := (unhide S4).c
  cases b3
  · have F := hide ((unhide T).not (fun hh => (unhide H3).no hh.1.2.2.2.1))
    clear T
    go_wp2
    go_ret
    exact ⟨by rw [unhide F]; rfl, (unhide S4).b⟩
  go_wp2_with fail
  refine (ITrade.sOk _ x.gt _ x.ct x.b.ts b4 rfl nt (unhide S4).r.lt (unhide S4).r.rt (unhide H4)).mono ?_
  rintro e w5 ⟨rfl, bb⟩
  have S5 := hide ((unhide S4).step bb)
  clear bb
  clear c0 c1 c2 c3 c4 c5
  obtain ⟨c0, c1, c2, c3, c4, c5⟩ := (unhide S5).c
  cases b4
  · have F := hide ((unhide T).not (fun hh => (unhide H4).no hh.1.2.2.2.2.1))
    clear T
    go_wp2
    go_ret
    exact ⟨by rw [unhide F]; rfl, (unhide S5).b⟩
  go_wp2_with fail
  refine (SOk5.sIn x.b.lot 0 1000000000 b5 _ (unhide H5)).mono ?_
  rintro e w6 ⟨rfl, rfl⟩
  have S6 := S5
  cases b5
  · have F := hide ((unhide T).not (fun hh => (unhide H5).no hh.1.2.2.2.2.2))
    clear T
    go_wp2
    go_ret
    exact ⟨by rw [unhide F]; rfl, (unhide S6).b⟩
  have L := hide (show Lists x.b from ⟨(unhide H0).yes, (unhide H1).yes, (unhide H2).yes, (unhide H3).yes, (unhide H4).yes, (unhide H5).yes⟩)
  go_wp2_with fail
  refine (sBals _ x b6 (unhide S6).r (unhide L) (unhide H6)).mono ?_
  rintro e w7 ⟨rfl, bb⟩
  have S7 := hide ((unhide S6).step bb)
  clear bb
  clear c0 c1 c2 c3 c4 c5
  obtain ⟨c0, c1, c2, c3, c4, c5⟩ := (unhide S7).c
  cases b6
  · have F := hide ((unhide T).not (fun hh => (unhide H6).no hh.2.1))
    clear T
    go_wp2
    go_ret
    exact ⟨by rw [unhide F]; rfl, (unhide S7).b⟩
  go_wp2_with fail
  refine (sLots _ x b7 (unhide S7).r (unhide L) (unhide H7)).mono ?_
  rintro e w8 ⟨rfl, bb⟩
  have S8 := hide ((unhide S7).step bb)
  clear bb
  clear c0 c1 c2 c3 c4 c5
  obtain ⟨c0, c1, c2, c3, c4, c5⟩ := (unhide S8).c
  cases b7
  · have F := hide ((unhide T).not (fun hh => (unhide H7).no hh.2.2.1))
    clear T
    go_wp2
    go_ret
    exact ⟨by rw [unhide F]; rfl, (unhide S8).b⟩
  go_wp2
  go_loopw [3] (fun i wr => ∃ (k : Nat), k ≤ x.b.ts.length ∧ i = .int .i64 k ∧ St w wr x ∧ Hid (∀ j, j < k → TradeFit x.b (el8 x.b.ts j))) (fun i _ => x.b.ts.length - (intOf i).toNat)
  case atStart => exact ⟨0, by omega, rfl, unhide S8, hide (fun i hi => absurd hi (by omega))⟩
  case round =>
    obtain ⟨k, hk, rfl, hS, HG⟩ := hrel
    clear S0 S1 S2 S3 S4 S5 S6 S7 S8 c0 c1 c2 c3 c4 c5
    obtain ⟨c0, c1, c2, c3, c4, c5⟩ := hS.c
    by_cases t : k < x.b.ts.length
    · obtain ⟨d0, d1, d2, d3, d4, d5, d6, d7⟩ := (hS.r.rt k t)
      have BAD := hide (show ¬ TradeFit x.b (el8 x.b.ts k) → b = false from fun hr => (unhide T).not (fun r => hr (r.2.2.2 k t)))
      have GOOD := hide (show TradeFit x.b (el8 x.b.ts k) → ∀ i, i < k + 1 → TradeFit x.b (el8 x.b.ts i) from fun hr i hi => by
        by_cases e : i = k
        · subst e; exact hr
        · exact (unhide HG) i (by omega))
      have FIT := hide (show TradeFit x.b (el8 x.b.ts k) ↔ kindOf x.b.ac (el8 x.b.ts k).2.1 = 1 ∧ kindOf x.b.ac (el8 x.b.ts k).2.2.1 = 1 ∧ kindOf x.b.ic (el8 x.b.ts k).2.2.2.1 = 2 ∧ kindOf x.b.ic (el8 x.b.ts k).2.2.2.2.2.1 = 1 from Iff.rfl)
      have wz := hS.s
      have S1 := hide (hS.step (one_more wr (.cells #[.int .i64 (el8 x.b.ts k).1, .int .i64 (el8 x.b.ts k).2.1, .int .i64 (el8 x.b.ts k).2.2.1, .int .i64 (el8 x.b.ts k).2.2.2.1, .int .i64 (el8 x.b.ts k).2.2.2.2.1, .int .i64 (el8 x.b.ts k).2.2.2.2.2.1, .int .i64 (el8 x.b.ts k).2.2.2.2.2.2.1, .int .i64 (el8 x.b.ts k).2.2.2.2.2.2.2] 110)))
      clear hS
      generalize TradeFit x.b (el8 x.b.ts k) = FP at *
      generalize (el8 x.b.ts k).1 = y0 at *
      generalize (el8 x.b.ts k).2.1 = y1 at *
      generalize (el8 x.b.ts k).2.2.1 = y2 at *
      generalize (el8 x.b.ts k).2.2.2.1 = y3 at *
      generalize (el8 x.b.ts k).2.2.2.2.1 = y4 at *
      generalize (el8 x.b.ts k).2.2.2.2.2.1 = y5 at *
      generalize (el8 x.b.ts k).2.2.2.2.2.2.1 = y6 at *
      generalize (el8 x.b.ts k).2.2.2.2.2.2.2 = y7 at *
      generalize hK1 : kindOf x.b.ac y1 = K1 at *
      generalize hK2 : kindOf x.b.ac y2 = K2 at *
      generalize hK3 : kindOf x.b.ic y3 = K3 at *
      generalize hK4 : kindOf x.b.ic y5 = K4 at *
      have N1 := hide hK1
      have N2 := hide hK2
      have N3 := hide hK3
      have N4 := hide hK4
      clear hK1 hK2 hK3 hK4
      go_wp2_with fail
      refine (sKindA _ x y1 K1 (unhide S1).r (unhide L).1 (unhide N1)).mono ?_
      rintro e v1 ⟨rfl, bb⟩
      have S2 := hide ((unhide S1).step bb)
      have f2 : v1.cell? ⟨wr.heap.size, 2, none⟩ = some (.int .i64 y2) := (bb.cell (p := ⟨wr.heap.size, 2, none⟩) (by simp)).trans (by simp)
      have f3 : v1.cell? ⟨wr.heap.size, 3, none⟩ = some (.int .i64 y3) := (bb.cell (p := ⟨wr.heap.size, 3, none⟩) (by simp)).trans (by simp)
      have f5 : v1.cell? ⟨wr.heap.size, 5, none⟩ = some (.int .i64 y5) := (bb.cell (p := ⟨wr.heap.size, 5, none⟩) (by simp)).trans (by simp)
      have z1 : wr.heap.size < v1.heap.size := by have := bb.size; simp at this; omega
      clear d0 d1 d2 d3 d4 d5 d6 d7
      clear bb c0 c1 c2 c3 c4 c5
      obtain ⟨c0, c1, c2, c3, c4, c5⟩ := (unhide S2).c
      by_cases q1 : K1 = 1
      rotate_left
      · have F := hide ((unhide BAD) (fun hh => q1 ((unhide FIT).1 hh).1))
        have hq : (K1 != 1) = true := by simp [q1]
        clear BAD GOOD FIT T q1
        go_wp2
        go_ret
        exact ⟨by rw [unhide F]; rfl, (unhide S2).b⟩
      have hq1 : (K1 != 1) = false := by simp [q1]
      have Q1 := hide q1
      clear q1
      go_wp2_with fail
      refine (sKindA _ x y2 K2 (unhide S2).r (unhide L).1 (unhide N2)).mono ?_
      rintro e v2 ⟨rfl, bb⟩
      have S3 := hide ((unhide S2).step bb)
      replace f2 : v2.cell? ⟨wr.heap.size, 2, none⟩ = some (.int .i64 y2) := (bb.cell (p := ⟨wr.heap.size, 2, none⟩) z1).trans f2
      replace f3 : v2.cell? ⟨wr.heap.size, 3, none⟩ = some (.int .i64 y3) := (bb.cell (p := ⟨wr.heap.size, 3, none⟩) z1).trans f3
      replace f5 : v2.cell? ⟨wr.heap.size, 5, none⟩ = some (.int .i64 y5) := (bb.cell (p := ⟨wr.heap.size, 5, none⟩) z1).trans f5
      have z2 : wr.heap.size < v2.heap.size := Nat.lt_of_lt_of_le z1 bb.size
      clear bb c0 c1 c2 c3 c4 c5
      obtain ⟨c0, c1, c2, c3, c4, c5⟩ := (unhide S3).c
      by_cases q2 : K2 = 1
      rotate_left
      · have F := hide ((unhide BAD) (fun hh => q2 ((unhide FIT).1 hh).2.1))
        have hq : (K2 != 1) = true := by simp [q2]
        clear BAD GOOD FIT T q2
        go_wp2
        go_ret
        exact ⟨by rw [unhide F]; rfl, (unhide S3).b⟩
      have hq2 : (K2 != 1) = false := by simp [q2]
      have Q2 := hide q2
      clear q2
      go_wp2_with fail
      refine (sKindI _ x y3 K3 (unhide S3).r (unhide L).2.1 (unhide N3)).mono ?_
      rintro e v3 ⟨rfl, bb⟩
      have S4 := hide ((unhide S3).step bb)
      replace f2 : v3.cell? ⟨wr.heap.size, 2, none⟩ = some (.int .i64 y2) := (bb.cell (p := ⟨wr.heap.size, 2, none⟩) z2).trans f2
      replace f3 : v3.cell? ⟨wr.heap.size, 3, none⟩ = some (.int .i64 y3) := (bb.cell (p := ⟨wr.heap.size, 3, none⟩) z2).trans f3
      replace f5 : v3.cell? ⟨wr.heap.size, 5, none⟩ = some (.int .i64 y5) := (bb.cell (p := ⟨wr.heap.size, 5, none⟩) z2).trans f5
      have z3 : wr.heap.size < v3.heap.size := Nat.lt_of_lt_of_le z2 bb.size
      clear bb c0 c1 c2 c3 c4 c5
      obtain ⟨c0, c1, c2, c3, c4, c5⟩ := (unhide S4).c
      by_cases q3 : K3 = 2
      rotate_left
      · have F := hide ((unhide BAD) (fun hh => q3 ((unhide FIT).1 hh).2.2.1))
        have hq : (K3 != 2) = true := by simp [q3]
        clear BAD GOOD FIT T q3
        go_wp2
        go_ret
        exact ⟨by rw [unhide F]; rfl, (unhide S4).b⟩
      have hq3 : (K3 != 2) = false := by simp [q3]
      have Q3 := hide q3
      clear q3
      go_wp2_with fail
      refine (sKindI _ x y5 K4 (unhide S4).r (unhide L).2.1 (unhide N4)).mono ?_
      rintro e v4 ⟨rfl, bb⟩
      have S5 := hide ((unhide S4).step bb)
      clear bb c0 c1 c2 c3 c4 c5
      obtain ⟨c0, c1, c2, c3, c4, c5⟩ := (unhide S5).c
      by_cases q4 : K4 = 1
      rotate_left
      · have F := hide ((unhide BAD) (fun hh => q4 ((unhide FIT).1 hh).2.2.2))
        have hq : (K4 != 1) = true := by simp [q4]
        clear BAD GOOD FIT T q4
        go_wp2
        go_ret
        exact ⟨by rw [unhide F]; rfl, (unhide S5).b⟩
      have hq4 : (K4 != 1) = false := by simp [q4]
      have Q4 := hide q4
      clear q4
      have G := hide ((unhide GOOD) ((unhide FIT).2 ⟨unhide Q1, unhide Q2, unhide Q3, unhide Q4⟩))
      clear BAD GOOD FIT
      go_wp2
      go_roundw
      case rel => exact ⟨k + 1, by omega, by go_num, unhide S5, G⟩
      case measure => simp [intOf]; omega
    · have F := hide ((unhide T).of ⟨unhide L, (unhide H6).yes, (unhide H7).yes, fun j hj => (unhide HG) j (by omega)⟩)
      have S1 := hide hS
      clear hS
      go_wp2
      go_ret
      exact ⟨by rw [unhide F]; rfl, (unhide S1).b⟩
end Go.Proofs.YtnmeiiaipacplaaGreat.SBooksOk
namespace Go.Proofs.YtnmeiiaipacplaaGreat.Ans
open Go.ChangeShapes Go.WideShapes Go.ChangeAt Go.RowKit BMem Bks ILists BHelp
open IBalsFit (one_more)
def Off (z : Bx) (g : Nat) : Prop := z.ga ≠ g ∧ z.gi ≠ g ∧ z.gb ≠ g ∧ z.gl ≠ g ∧ z.gt ≠ g
theorem off_up {z : Bx} {N g : Nat} (h : Up z N) (k : N ≤ g) : Off z g := by
  unfold Up at h
  unfold Off
  omega
theorem off_lo {z : Bx} {N g : Nat} (h : Lo z N) (k : g < N) : Off z g := by
  unfold Lo at h
  unfold Off
  omega
theorem row_set {w : World} {base : Nat} {e : TypeId} {size g n cap : Nat} {xs : List Value} (h : w.ownsRow base e size (.slice (some ⟨g, 0, none⟩) n cap) n xs) {g0 : Nat} (ne : g ≠ g0) (j : Nat) (u : Value) : (w.setCell ⟨g0, j, none⟩ u).ownsRow base e size (.slice (some ⟨g, 0, none⟩) n cap) n xs :=
  row_block h (Below.heap_setCell w ⟨g0, j, none⟩ u g ne)
theorem ow_set {w : World} {base : Nat} {z : Bx} {g : Nat} (h : Ow w base z) (off : Off z g) (j : Nat) (u : Value) : Ow (w.setCell ⟨g, j, none⟩ u) base z :=
  ⟨row_set h.oa off.1 j u, row_set h.oi off.2.1 j u, row_set h.ob off.2.2.1 j u, row_set h.ol off.2.2.2.1 j u, row_set h.ot off.2.2.2.2 j u⟩
theorem ow_alloc {w : World} {base : Nat} {z : Bx} (h : Ow w base z) (o : Obj) : Ow (w.alloc o) base z :=
  ⟨h.oa.alloc o, h.oi.alloc o, h.ob.alloc o, h.ol.alloc o, h.ot.alloc o⟩
theorem six {B : Nat} {a w : World} {g : Nat} (h : Below B a w) (hg : B ≤ g) (u0 u1 u2 u3 u4 u5 : Value) : Below B a ((((((w.setCell ⟨g, 0, none⟩ u0).setCell ⟨g, 1, none⟩ u1).setCell ⟨g, 2, none⟩ u2).setCell ⟨g, 3, none⟩ u3).setCell ⟨g, 4, none⟩ u4).setCell ⟨g, 5, none⟩ u5) :=
  (((((h.setCell (p := ⟨g, 0, none⟩) hg u0).setCell (p := ⟨g, 1, none⟩) hg u1).setCell (p := ⟨g, 2, none⟩) hg u2).setCell (p := ⟨g, 3, none⟩) hg u3).setCell (p := ⟨g, 4, none⟩) hg u4).setCell (p := ⟨g, 5, none⟩) hg u5
theorem ow_six {w : World} {base : Nat} {z : Bx} {g : Nat} (h : Ow w base z) (off : Off z g) (u0 u1 u2 u3 u4 u5 : Value) : Ow ((((((w.setCell ⟨g, 0, none⟩ u0).setCell ⟨g, 1, none⟩ u1).setCell ⟨g, 2, none⟩ u2).setCell ⟨g, 3, none⟩ u3).setCell ⟨g, 4, none⟩ u4).setCell ⟨g, 5, none⟩ u5) base z :=
  ow_set (ow_set (ow_set (ow_set (ow_set (ow_set h off 0 u0) off 1 u1) off 2 u2) off 3 u3) off 4 u4) off 5 u5
theorem box_six {w : World} {base g : Nat} {v0 v1 v2 v3 v4 v5 : Value} (h : Box w base g v0 v1 v2 v3 v4 v5) (u0 u1 u2 u3 u4 u5 : Value) : Box ((((((w.setCell ⟨g, 0, none⟩ u0).setCell ⟨g, 1, none⟩ u1).setCell ⟨g, 2, none⟩ u2).setCell ⟨g, 3, none⟩ u3).setCell ⟨g, 4, none⟩ u4).setCell ⟨g, 5, none⟩ u5) base g u0 u1 u2 u3 u4 u5 ∧ w.grownBy ((((((w.setCell ⟨g, 0, none⟩ u0).setCell ⟨g, 1, none⟩ u1).setCell ⟨g, 2, none⟩ u2).setCell ⟨g, 3, none⟩ u3).setCell ⟨g, 4, none⟩ u4).setCell ⟨g, 5, none⟩ u5) (some g) := by
  obtain ⟨s0, y0⟩ := h.set0 u0
  obtain ⟨s1, y1⟩ := s0.set1 u1
  obtain ⟨s2, y2⟩ := s1.set2 u2
  obtain ⟨s3, y3⟩ := s2.set3 u3
  obtain ⟨s4, y4⟩ := s3.set4 u4
  obtain ⟨s5, y5⟩ := s4.set5 u5
  exact ⟨s5, Pairs.grown_trans (Pairs.grown_trans (Pairs.grown_trans (Pairs.grown_trans (Pairs.grown_trans y0 y1) y2) y3) y4) y5⟩
structure SR (w W : World) (x : Bx) : Prop where
  r : Rd W x
  c : Cl W w.heap.size x
  v : Box W w.heap.size (w.heap.size + 1) (.slice none 0 0) (.slice none 0 0) (.slice none 0 0) (.slice none 0 0) (.slice none 0 0) (.int .i64 0)
  b : Below w.heap.size w W
theorem SR.start {w : World} {x : Bx} (h : Rd w x) : SR w ((w.alloc (.cells #[.slice (some ⟨x.ga, 0, none⟩) x.b.ac.length x.ca, .slice (some ⟨x.gi, 0, none⟩) x.b.ic.length x.ci, .slice (some ⟨x.gb, 0, none⟩) x.b.bs.length x.cb, .slice (some ⟨x.gl, 0, none⟩) x.b.ls.length x.cl, .slice (some ⟨x.gt, 0, none⟩) x.b.ts.length x.ct, .int .i64 x.b.lot] 36)).alloc (.cells #[.slice none 0 0, .slice none 0 0, .slice none 0 0, .slice none 0 0, .slice none 0 0, .int .i64 0] 36)) x :=
  ⟨(h.alloc _).alloc _, (boxed w x 36).below (one_more _ _) (by simp), Box.made _ _ _ _ _ _ (by simp) (by simp), ((Below.refl w.heap.size w).alloc (Nat.le_refl _) _).alloc (by simp) _⟩
theorem SR.step {w W W' : World} {x : Bx} (h : SR w W x) (k : Below W.heap.size W W') : SR w W' x := by
  have l := h.v.lt
  exact ⟨h.r.below k, h.c.below k (by omega), h.v.below k (by omega), h.b.trans (k.mono h.b.size)⟩
theorem ok_small {b : Bk} (h : Ok b) : Small b := by
  obtain ⟨⟨h1, h2, h3, h4, h5, _⟩, _⟩ := h
  have a := h1.1
  have b := h2.1
  have c := h3.1
  have d := h4.1
  have e := h5.1
  exact ⟨by omega, by omega, by omega, by omega, by omega⟩
end Go.Proofs.YtnmeiiaipacplaaGreat.Ans
namespace Go.Proofs.YtnmeiiaipacplaaGreat.Post2
open Go.ChangeShapes Go.WideShapes Go.ChangeAt Go.RowKit Bals Triples Cmp SOk3 IOk3 Tab Look SPut3 Out Legs Post
set_option maxRecDepth 100000 in
theorem iLacks (w : World) (B n gL m capL gS s capS : Nat) (f : Int → Int → Int) (ls : List T3) (xs : List Int) (b : Bool) (hl : ls.length = m) (hs : xs.length = s) (s20 : s ≤ 20) (hg : gL < w.heap.size) (hgs : gS < w.heap.size) (h : At3 w gL ls) (hx : Ints.At w gS xs) (hF : Formed ls) (ht : Tab w B n f) (hb : Says b (Lacks f ls xs)) :
    Calls Tryz.prog 172 #[.map (some B), .slice (some ⟨gL, 0, none⟩) m capL, .slice (some ⟨gS, 0, none⟩) s capS] w fun e w' => e = .returned (.bool b) ∧ Below w.heap.size w w' := by
  have m160 : m ≤ 160 := by have := hF.1; omega
  have H := hide h
  have HX := hide hx
  have HF := hide hF
  have T0 := hide ht
  have HS := hide hb
  clear h hF ht hx hb
  go_enter Tryz.func172, Tryz.ntmps172
  go_wp2
  go_loopw [8, 11] (fun _ j wr => ∃ (k : Nat), k ≤ m ∧ j = .int .i64 k ∧ Hid (Below w.heap.size w wr) ∧ Hid (∀ j, j < k → ¬ (f (el3 ls j).1 (el3 ls j).2.1 < 0 ∧ (el3 ls j).1 ∉ xs))) (fun _ j _ => m - (intOf j).toNat)
  case atStart => exact ⟨0, by omega, rfl, hide (Below.refl _ _), hide (fun j hj => by omega)⟩
  case round =>
    obtain ⟨k, hk, rfl, HB, HG⟩ := hrel
    by_cases t : k < m
    · obtain ⟨e1, e2, e3⟩ := (unhide H).below (unhide HB) hg k (by omega)
      obtain ⟨l1, l2, l3⟩ := (unhide HF).2 k (by omega)
      have WF := wf_no l1 l2
      obtain ⟨c, SC⟩ := says_of ((el3 ls k).1 ∈ xs)
      have YES := hide (show f (el3 ls k).1 (el3 ls k).2.1 < 0 ∧ (el3 ls k).1 ∉ xs → b = true from fun q => (unhide HS).of ⟨k, by omega, q.1, q.2⟩)
      have GO := hide (show ¬ (f (el3 ls k).1 (el3 ls k).2.1 < 0 ∧ (el3 ls k).1 ∉ xs) → ∀ j, j < k + 1 → ¬ (f (el3 ls j).1 (el3 ls j).2.1 < 0 ∧ (el3 ls j).1 ∉ xs) from fun q j hj => by
        by_cases e : j = k
        · subst e; exact q
        · exact (unhide HG) j (by omega))
      have bs := (unhide HB).size
      have X1 := hide ((unhide HX).below (next (unhide HB) (one_more wr (.cells #[.int .i64 (el3 ls k).1, .int .i64 (el3 ls k).2.1, .int .i64 (el3 ls k).2.2] 80))) hgs)
      have T1 := hide ((unhide T0).below (next (unhide HB) (one_more wr (.cells #[.int .i64 (el3 ls k).1, .int .i64 (el3 ls k).2.1, .int .i64 (el3 ls k).2.2] 80))))
      have B1 := hide ((unhide HB).alloc bs (.cells #[.int .i64 (el3 ls k).1, .int .i64 (el3 ls k).2.1, .int .i64 (el3 ls k).2.2] 80))
      clear l1 l2 l3
      generalize (el3 ls k).1 = x at *
      generalize (el3 ls k).2.1 = y at *
      generalize (el3 ls k).2.2 = z at *
      generalize hv : f x y = v at *
      have HV := hide hv
      clear hv
      by_cases v0 : v < 0
      · cases c
        · obtain rfl : b = true := (unhide YES) ⟨v0, SC.no⟩
          clear YES GO
          go_wp2_with (first | (at_lookup; refine wp_look _ rfl _ _ 172 rfl Tryz.underlying172 B n f rfl (unhide T1) x y rfl WF ?_; rw [unhide HV]) | (go_at_call 190; refine (iHas _ gS s capS xs x false hs (by omega) (unhide X1) SC).mono ?_; rintro e w2 ⟨rfl, rfl⟩) | go_in)
          go_ret
          exact ⟨rfl, unhide B1⟩
        · have G := hide ((unhide GO) (fun q => q.2 SC.yes))
          clear YES GO
          go_wp2_with (first | (at_lookup; refine wp_look _ rfl _ _ 172 rfl Tryz.underlying172 B n f rfl (unhide T1) x y rfl WF ?_; rw [unhide HV]) | (go_at_call 190; refine (iHas _ gS s capS xs x true hs (by omega) (unhide X1) SC).mono ?_; rintro e w2 ⟨rfl, rfl⟩) | go_in)
          go_roundw
          case rel => exact ⟨k + 1, by omega, by go_num, B1, G⟩
          case measure => simp [intOf]; omega
      · have G := hide ((unhide GO) (fun q => v0 q.1))
        clear YES GO
        go_wp2_with (first | (at_lookup; refine wp_look _ rfl _ _ 172 rfl Tryz.underlying172 B n f rfl (unhide T1) x y rfl WF ?_; rw [unhide HV]) | go_in)
        go_roundw
        case rel => exact ⟨k + 1, by omega, by go_num, B1, G⟩
        case measure => simp [intOf]; omega
    · obtain rfl : k = m := by omega
      obtain rfl : b = false := (unhide HS).not (fun r => by
        obtain ⟨j, hj, q⟩ := r
        exact (unhide HG) j (by omega) q)
      go_wp2
      go_ret
      exact ⟨rfl, unhide HB⟩
def IsCode (f : Int → Int → Int) (ls : List T3) (xs : List Int) (w' : World) (B : Nat) (c : Int) : Prop :=
  (¬ Even ls ∧ c = 2) ∨
  (Even ls ∧ posts f ls = none ∧ c = 4) ∨
  (∃ f', Even ls ∧ posts f ls = some f' ∧ Lacks f' ls xs ∧ c = 3) ∨
  (∃ f' qs, Even ls ∧ posts f ls = some f' ∧ ¬ Lacks f' ls xs ∧ ListOf f' qs ∧ ¬ qs.length ≤ 160 ∧ c = 5) ∨
  (∃ f' qs n, Even ls ∧ posts f ls = some f' ∧ ¬ Lacks f' ls xs ∧ ListOf f' qs ∧ qs.length ≤ 160 ∧ n ≤ 1000 ∧ Tab w' B n f' ∧ c = 0)
theorem ints_grown {w w' : World} {g B : Nat} {xs : List Int} (h : Ints.At w g xs) (k : w.grownBy w' (some B)) (hg : g < w.heap.size) (hne : g ≠ B) : Ints.At w' g xs := by
  intro i hi
  have e : w'.heap[g]? = w.heap[g]? := k.block g hg (by simp; exact hne)
  exact (World.cell?_of_block (w := w) (a := ⟨g, i, none⟩) e).trans (h i hi)
theorem below_row {w w' : World} (h : Below w.heap.size w w') (B : Nat) : w.grownBy w' (some B) := ⟨h.os, h.tape, h.output, h.size, fun j hj _ => h.block j hj⟩
set_option maxRecDepth 100000 in
theorem iPost (w : World) (B n gL m capL gS s capS : Nat) (f : Int → Int → Int) (ls : List T3) (xs : List Int) (hl : ls.length = m) (hs : xs.length = s) (s20 : s ≤ 20) (hn : n ≤ 200) (hg : gL < w.heap.size) (hgs : gS < w.heap.size) (ne1 : gL ≠ B) (ne2 : gS ≠ B) (h : At3 w gL ls) (hx : Ints.At w gS xs) (hF : Formed ls) (hf : Fine f) (ht : Tab w B n f) :
    Calls Tryz.prog 147 #[.map (some B), .slice (some ⟨gL, 0, none⟩) m capL, .slice (some ⟨gS, 0, none⟩) s capS] w fun e w' => ∃ c, e = .returned (.int .i64 c) ∧ IsCode f ls xs w' B c ∧ w.grownBy w' (some B) := by
  have m160 : m ≤ 160 := by have := hF.1; omega
  obtain ⟨b, SB⟩ := says_of (Even ls)
  have H := hide h
  have HX := hide hx
  have HF := hide hF
  have T0 := hide ht
  have FF := hide hf
  clear h hF ht hx hf
  go_enter Tryz.func147, Tryz.ntmps147
  go_wp2_with fail
  refine (iEven _ gL m capL ls b hl hg (unhide H) (unhide HF) SB).mono ?_
  rintro e w1 ⟨rfl, n1⟩
  have A1 := hide ((unhide H).below n1 hg)
  have X1 := hide ((unhide HX).below n1 hgs)
  have T1 := hide ((unhide T0).below n1)
  have G1 := hide (below_row n1 B)
  have s1 := n1.size
  clear n1
  cases b
  · go_wp2
    go_ret
    exact ⟨2, rfl, .inl ⟨SB.no, rfl⟩, unhide G1⟩
  go_wp2_with fail
  refine (iAddT _ B n gL m capL f ls hl (by omega) (by omega) ne1 (unhide A1) (unhide HF) (unhide FF) (unhide T1)).mono ?_
  rintro e w2 ⟨ok, rfl, hy, hno, g2⟩
  have HY := hide hy
  have HN := hide hno
  have A2 := hide (at3_grown (unhide A1) g2 (by omega) ne1)
  have X2 := hide (ints_grown (unhide X1) g2 (by omega) ne2)
  have G2 := hide (grown_trans (unhide G1) g2)
  have s2 := g2.size
  clear hy hno g2
  cases ok
  · have E := hide ((unhide HN) rfl)
    clear HY HN
    go_wp2
    go_ret
    exact ⟨4, rfl, .inr (.inl ⟨SB.yes, unhide E, rfl⟩), unhide G2⟩
  obtain ⟨f', E, t2, fi⟩ := (unhide HY) rfl
  have T2 := hide t2
  have EE := hide E
  clear HY HN t2 fi E
  obtain ⟨c, SC⟩ := says_of (Lacks f' ls xs)
  go_wp2_with fail
  refine (iLacks _ B (n + m) gL m capL gS s capS f' ls xs c hl hs s20 (by omega) (by omega) (unhide A2) (unhide X2) (unhide HF) (unhide T2) SC).mono ?_
  rintro e w3 ⟨rfl, n3⟩
  have T3 := hide ((unhide T2).below n3)
  have G3 := hide (grown_trans (unhide G2) (below_row n3 B))
  clear n3
  cases c
  · go_wp2_with fail
    refine (iBals _ B (n + m) f' (by omega) (unhide T3)).mono ?_
    rintro e w4 ⟨qs, g4, c4, lo, ll, rfl, o4, n4⟩
    have LO := hide lo
    have T4 := hide ((unhide T3).below n4)
    have G4 := hide (grown_trans (unhide G3) (below_row n4 B))
    clear lo o4 n4
    by_cases ln : qs.length ≤ 160
    · have ln2 : ¬ (160 : Int) < (qs.length : Int) := by omega
      go_wp2
      go_ret
      exact ⟨0, rfl, .inr (.inr (.inr (.inr ⟨f', qs, n + m, SB.yes, unhide EE, SC.no, unhide LO, ln, by omega, unhide T4, rfl⟩))), unhide G4⟩
    · have ln2 : (160 : Int) < (qs.length : Int) := by omega
      go_wp2
      go_ret
      exact ⟨5, rfl, .inr (.inr (.inr (.inl ⟨f', qs, SB.yes, unhide EE, SC.no, unhide LO, ln, rfl⟩))), unhide G4⟩
  · go_wp2
    go_ret
    exact ⟨3, rfl, .inr (.inr (.inl ⟨f', SB.yes, unhide EE, SC.yes, rfl⟩)), unhide G3⟩
def PostAnswers (w : World) (ps ls : List T3) (xs : List Int) (e : Ending) (w' : World) : Prop :=
  ∃ qs c g cap, IsPost ps ls xs qs c ∧ e = .returned (.tuple #[.slice (some ⟨g, 0, none⟩) qs.length cap, .int .i64 c]) ∧ Own3 119 w' w.heap.size g qs.length cap qs ∧ Below w.heap.size w w'
theorem none_posted {w u : World} {ps ls : List T3} {xs : List Int} (hp : IsPost ps ls xs [] 1) (hb : Below w.heap.size w u) : PostAnswers w ps ls xs (.returned (.tuple #[.slice (some ⟨u.heap.size, 0, none⟩) 0 0, .int .i64 1])) (u.alloc (.cells #[] 119)) :=
  ⟨[], 1, u.heap.size, 0, hp, rfl, lit30 _ _ _ hb.size, hb.alloc hb.size _⟩
set_option maxRecDepth 100000 in
set_option maxHeartbeats 1000000 in
theorem iBalsPost (w : World) (g n cap gL m capL gS s capS : Nat) (ps ls : List T3) (xs : List Int) (hp : ps.length = n) (hl : ls.length = m) (hs : xs.length = s) (n20 : n ≤ 1048576) (m20 : m ≤ 1048576) (s20 : s ≤ 1048576)
    (hg : g < w.heap.size) (hgL : gL < w.heap.size) (hgS : gS < w.heap.size) (h : At3 w g ps) (hL : At3 w gL ls) (hX : Ints.At w gS xs) :
    Calls Tryz.prog 107 #[.slice (some ⟨g, 0, none⟩) n cap, .slice (some ⟨gL, 0, none⟩) m capL, .slice (some ⟨gS, 0, none⟩) s capS] w (PostAnswers w ps ls xs) := by
  obtain ⟨b0, S0⟩ := says_of (Right ps)
  obtain ⟨b1, S1⟩ := says_of (Formed ls)
  have BAD := hide (show ¬ (b0 = true ∧ b1 = true ∧ s ≤ 20) → IsPost ps ls xs [] 1 from fun hb => .bad (fun r => hb ⟨S0.of r.1, S1.of r.2.1, by omega⟩))
  have H := hide h
  have HL := hide hL
  have HX := hide hX
  clear h hL hX
  go_enter Tryz.func107, Tryz.ntmps107
  go_wp2_with fail
  refine (iOk _ g n cap ps b0 hp n20 hg (unhide H) S0).mono ?_
  rintro e w1 ⟨rfl, n1⟩
  have A1 := hide ((unhide H).below n1 hg)
  have L1 := hide ((unhide HL).below n1 hgL)
  have X1 := hide ((unhide HX).below n1 hgS)
  have B1 := hide n1
  have s1 := n1.size
  clear n1
  cases b0
  · have P0 := hide ((unhide BAD) (fun q => by cases q.1))
    go_wp2
    go_ret2
    exact none_posted (unhide P0) (unhide B1)
  go_wp2_with fail
  refine (iFormed _ gL m capL ls b1 hl m20 (by omega) (unhide L1) S1).mono ?_
  rintro e w2 ⟨rfl, n2⟩
  have A2 := hide ((unhide A1).below n2 (by omega))
  have L2 := hide ((unhide L1).below n2 (by omega))
  have X2 := hide ((unhide X1).below n2 (by omega))
  have B2 := hide (next (unhide B1) n2)
  have s2 := n2.size
  clear n2
  cases b1
  · have P0 := hide ((unhide BAD) (fun q => by cases q.2.1))
    go_wp2
    go_ret2
    exact none_posted (unhide P0) (unhide B2)
  by_cases ts : s ≤ 20
  · have ts2 : ¬ (20 : Int) < (s : Int) := by omega
    have ALL := hide (show Right ps ∧ Formed ls ∧ xs.length ≤ 20 from ⟨S0.yes, S1.yes, by omega⟩)
    have n160 : n ≤ 160 := by have := S0.yes.1; omega
    have FF := hide (fine_of S0.yes)
    clear BAD
    go_wp2_with fail
    refine (iTable _ g n cap ps hp (by omega) (unhide A2) S0.yes).mono ?_
    rintro e w3 ⟨rfl, t3, n3⟩
    have A3 := hide ((unhide A2).below n3 (by omega))
    have L3 := hide ((unhide L2).below n3 (by omega))
    have X3 := hide ((unhide X2).below n3 (by omega))
    have B3 := hide (next (unhide B2) n3)
    have T3 := hide t3
    have s3 := n3.size
    have tl := t3.lt
    clear n3 t3
    go_wp2_with fail
    refine (iPost _ w2.heap.size n gL m capL gS s capS (val ps) ls xs hl hs ts (by omega) (by omega) (by omega) (by omega) (by omega) (unhide L3) (unhide X3) S1.yes (unhide FF) (unhide T3)).mono ?_
    rintro e w4 ⟨c, rfl, hc, g4⟩
    have A4 := hide (at3_grown (unhide A3) g4 (by omega) (by omega))
    have B4 := hide ((unhide B3).grown g4 (unhide B3).size (fun j hj => by cases hj; omega))
    have s4 := g4.size
    have b4 := (unhide B4).size
    have HC := hide hc
    clear g4 hc
    by_cases c0 : c = 0
    · subst c0
      have TT := hide (show ∃ f' qs k, Even ls ∧ posts (val ps) ls = some f' ∧ ¬ Lacks f' ls xs ∧ ListOf f' qs ∧ qs.length ≤ 160 ∧ k ≤ 1000 ∧ Tab w4 w2.heap.size k f' from by
        rcases unhide HC with ⟨_, e⟩ | ⟨_, _, e⟩ | ⟨_, _, _, _, e⟩ | ⟨_, _, _, _, _, _, _, e⟩ | ⟨f', qs, k, a, b, c, d, e, f, g, _⟩
        · omega
        · omega
        · omega
        · omega
        · exact ⟨f', qs, k, a, b, c, d, e, f, g⟩)
      obtain ⟨f', qs, k, EV, EP, NL, LO, LN, k1000, t4⟩ := unhide TT
      have T4 := hide t4
      have P0 := hide (IsPost.done f' qs (unhide ALL) EV EP NL LO LN)
      have LO := hide LO
      clear TT HC EV EP NL t4
      go_wp2_with fail
      refine (iBals _ w2.heap.size k f' (by omega) (unhide T4)).mono ?_
      rintro e w5 ⟨rs, g5, c5, lo, ll, rfl, o5, n5⟩
      obtain rfl := (unhide LO).same lo
      have O5 := hide (o5.rebase (base' := w.heap.size) (by have := o5.lt.1; omega))
      have B5 := hide (next (unhide B4) n5)
      clear lo o5 n5
      go_wp2
      go_ret2
      exact ⟨_, 0, g5, c5, unhide P0, rfl, unhide O5, unhide B5⟩
    · have P0 := hide (show IsPost ps ls xs ps c from by
        rcases unhide HC with ⟨a, rfl⟩ | ⟨a, b, rfl⟩ | ⟨f', a, b, d, rfl⟩ | ⟨f', qs, a, b, d, e, q, rfl⟩ | ⟨_, _, _, _, _, _, _, _, _, _, e⟩
        · exact .uneven (unhide ALL) a
        · exact .large (unhide ALL) a b
        · exact .short f' (unhide ALL) a b d
        · exact .full f' qs (unhide ALL) a b d e q
        · exact absurd e c0)
      have c0b : (c == 0) = false := by simpa using c0
      clear HC
      have Z := hide (lit30 119 w4 w.heap.size b4)
      have A5 := hide ((unhide A4).below (one_more w4 (.cells #[] 119)) (by omega))
      go_wp2_with (first | (at_builtin; refine BalApp.wp_copy _ rfl _ _ rfl w.heap.size w4.heap.size n 0 ps g cap rfl rfl (unhide Z) hp (unhide A5) (by omega) (by simp; omega) ?_) | go_in)
      intro g6 c6 w6 o6 gr6 _
      have O6 := hide o6
      have B6 := hide (((unhide B4).alloc b4 (.cells #[] 119)).grown gr6 (by simp; omega) (fun j hj => by cases hj; exact b4))
      clear o6 gr6
      go_wp2
      go_ret2
      exact ⟨ps, c, g6, c6, unhide P0, by rw [hp]; rfl, by rw [hp]; exact unhide O6, unhide B6⟩
  · have ts2 : (20 : Int) < (s : Int) := by omega
    have P0 := hide ((unhide BAD) (fun q => ts q.2.2))
    go_wp2
    go_ret2
    exact none_posted (unhide P0) (unhide B2)
end Go.Proofs.YtnmeiiaipacplaaGreat.Post2
namespace Go.Proofs.YtnmeiiaipacplaaGreat.SPost
open Go.ChangeShapes Go.WideShapes Go.ChangeAt Go.RowKit Bals Triples Cmp SOk3 IOk3 Tab Look SPut3 Out Legs Post Post2
theorem ints_drewN {w : World} {g : Nat} {xs : List Int} (h : Ints.At w g xs) (m : Nat) : Ints.At (w.drewN m) g xs := h
set_option maxRecDepth 100000 in
set_option maxHeartbeats 4000000 in
theorem sBalsPost (w : World) (g n cap gL m capL gS s capS : Nat) (ps ls : List T3) (xs : List Int) (hp : ps.length = n) (hl : ls.length = m) (hs : xs.length = s) (n20 : n ≤ 1048576) (m20 : m ≤ 1048576) (s20 : s ≤ 1048576)
    (hg : g < w.heap.size) (hgL : gL < w.heap.size) (hgS : gS < w.heap.size) (h : At3 w g ps) (hL : At3 w gL ls) (hX : Ints.At w gS xs) :
    Calls Tryz.prog 90 #[.slice (some ⟨g, 0, none⟩) n cap, .slice (some ⟨gL, 0, none⟩) m capL, .slice (some ⟨gS, 0, none⟩) s capS] w (PostAnswers w ps ls xs) := by
  obtain ⟨b0, S0⟩ := says_of (Right ps)
  obtain ⟨b1, S1⟩ := says_of (Formed ls)
  have BAD := hide (show ¬ (b0 = true ∧ b1 = true ∧ s ≤ 20) → IsPost ps ls xs [] 1 from fun hb => .bad (fun r => hb ⟨S0.of r.1, S1.of r.2.1, by omega⟩))
  have H := hide h
  have HL := hide hL
  have HX := hide hX
  clear h hL hX
  go_enter Tryz.func90, Tryz.ntmps90
  go_wp2_with fail
  refine (sOk _ g n cap ps b0 hp n20 hg (unhide H) S0).mono ?_
  rintro e w1 ⟨rfl, n1⟩
  have A1 := hide ((unhide H).below n1 hg)
  have L1 := hide ((unhide HL).below n1 hgL)
  have B1 := hide n1
  have s1 := n1.size
  clear n1
  cases b0
  · have P0 := hide ((unhide BAD) (fun q => by cases q.1))
    go_wp2
    go_ret2
    exact none_posted (unhide P0) (unhide B1)
  go_wp2_with fail
  refine (sRight _ gL m capL ls b1 hl m20 (unhide L1) S1).mono ?_
  rintro e w2 ⟨rfl, rfl⟩
  cases b1
  · have P0 := hide ((unhide BAD) (fun q => by cases q.2.1))
    go_wp2
    go_ret2
    exact none_posted (unhide P0) (unhide B1)
  by_cases ts : ¬ s ≤ 20
  · have ts2 : (20 : Int) < (s : Int) := by omega
    have P0 := hide ((unhide BAD) (fun q => ts q.2.2))
    go_wp2
    go_ret2
    exact none_posted (unhide P0) (unhide B1)
  have ts : s ≤ 20 := by omega
  have ts2 : ¬ (20 : Int) < (s : Int) := by omega
  have ALL := hide (show Right ps ∧ Formed ls ∧ xs.length ≤ 20 from ⟨S0.yes, S1.yes, by omega⟩)
  have n160 : n ≤ 160 := by have := S0.yes.1; omega
  have m160 : m ≤ 160 := by have := S1.yes.1; omega
  have FF := hide (fine_of S0.yes)
  clear BAD
  have bq := (unhide B1).size
  have Z := hide (lit30 119 w2 w.heap.size bq)
  have A5 := hide ((unhide A1).below (one_more w2 (.cells #[] 119)) (by omega))
  go_wp2_with (first | (at_builtin; refine BalApp.wp_copy _ rfl _ _ rfl w.heap.size w2.heap.size n 0 ps g cap rfl rfl (unhide Z) hp (unhide A5) (by omega) (by simp; omega) ?_) | go_in)
  intro g6 c6 w6 o6 gr6 _
  have O6 := hide o6
  have B6 := hide (((unhide B1).alloc bq (.cells #[] 119)).grown gr6 (by simp; omega) (fun j hj => by cases hj; exact bq))
  clear o6 gr6
  have gl6 := (unhide O6).lt.2
  have b6 := (unhide B6).size
  obtain ⟨b, SB⟩ := says_of (Formed ls ∧ Even ls)
  go_wp2_with fail
  refine (sLegsOk _ gL m capL ls b hl m20 ((unhide HL).below (unhide B6) hgL) SB).mono ?_
  rintro e w7 ⟨rfl, q7, rfl⟩
  have O7 := hide (show Own3 119 (w6.drewN q7) w.heap.size g6 n c6 ps from unhide O6)
  have B7 := hide (below_drewN (unhide B6) q7)
  generalize w6.drewN q7 = w7 at *
  clear A1 L1 B1 Z A5 B6 O6 gl6 b6 bq s1
  cases b
  · have P0 := hide (IsPost.uneven (unhide ALL) (fun e => SB.no ⟨S1.yes, e⟩))
    go_wp2
    go_ret2
    exact ⟨ps, 2, g6, c6, unhide P0, by rw [hp]; rfl, by rw [hp]; exact unhide O7, unhide B7⟩
  have EV := hide SB.yes.2
  go_wp2
  go_loopw [9, 10, 11, 12] (fun l j _ _ wr => ∃ (out : List T3) (gO cO k : Nat), l = .slice (some ⟨gO, 0, none⟩) out.length cO ∧ j = .int .i64 k ∧ k ≤ m ∧ out.length ≤ 160 + k ∧ Hid (Own3 119 wr w.heap.size gO out.length cO out) ∧ Hid (Below w.heap.size w wr) ∧ Hid (Bals.Good out) ∧ Hid (Fine (val out)) ∧ Hid (posts (val ps) ls = posts (val out) (ls.drop k))) (fun _ j _ _ _ => m - (intOf j).toNat)
  case atStart => exact ⟨ps, g6, c6, 0, by rw [hp], rfl, by omega, by omega, hide (by rw [hp]; exact unhide O7), B7, hide S0.yes.good, FF, hide rfl⟩
  case round =>
    clear O7 B7
    obtain ⟨out, gO, cO, k, rfl, rfl, hk, ol, HO, HB, GD, FN, HE⟩ := hrel
    have gol := (unhide HO).lt.2
    have bs := (unhide HB).size
    by_cases t : k < m
    · obtain ⟨e1, e2, e3⟩ := (unhide HL).below (unhide HB) hgL k (by omega)
      obtain ⟨l1, l2, l3⟩ := S1.yes.2 k (by omega)
      have AM := ((unhide FN) (el3 ls k).1 (el3 ls k).2.1).1
      obtain ⟨c, SC⟩ := says_of (Amt (val out (el3 ls k).1 (el3 ls k).2.1 + (el3 ls k).2.2))
      have PY := hide (fun a => (unhide HE).trans (posts_yes (f := val out) (ps := ls) (k := k) (by omega) a))
      have PN := hide (fun a => (unhide HE).trans (posts_no (f := val out) (ps := ls) (k := k) (by omega) a))
      have FU := hide (fun a => (unhide FN).upd (a := (el3 ls k).1) (i := (el3 ls k).2.1) (x := val out (el3 ls k).1 (el3 ls k).2.1 + (el3 ls k).2.2) l1 l2 a)
      have OFC := hide (fun q => sOf (wr.drewN q) gO out.length cO out (el3 ls k).1 (el3 ls k).2.1 rfl (by omega) (at_drewN (unhide HO).at q))
      clear HE FN
      generalize (el3 ls k).1 = x at *
      generalize (el3 ls k).2.1 = y at *
      generalize (el3 ls k).2.2 = z at *
      generalize hv : val out x y = v at *
      have HV := hide hv
      clear hv
      have kn : (k : Int) < (m : Int) := by omega
      go_wp2_with fail
      go_quiet (first | (go_at_call 66; refine Calls.quiet_of_same ((unhide OFC) _)) | (go_at_call 140; refine Calls.quiet_of_same (sAdd v z c _ AM l3 SC)))
      have O1 := hide (show Own3 119 (wr.drewN nq) w.heap.size gO out.length cO out from unhide HO)
      have B1 := hide (below_drewN (unhide HB) nq)
      have d1 : (wr.drewN nq).cell? ⟨gL, k * 3, none⟩ = some (.int .i64 x) := e1
      have d2 : (wr.drewN nq).cell? ⟨gL, k * 3 + 1, none⟩ = some (.int .i64 y) := e2
      clear HO HB e1 e2 e3 OFC
      generalize wr.drewN nq = u at *
      have gol := (unhide O1).lt.2
      have bs := (unhide B1).size
      cases c
      · have P0 := hide (IsPost.large (unhide ALL) (unhide EV) ((unhide PN) SC.no))
        have A1 := hide ((unhide H).below (unhide B1) hg)
        clear PY PN FU d1 d2
        have bq := (unhide B1).size
        have Z := hide (lit30 119 u w.heap.size bq)
        have A5 := hide ((unhide A1).below (one_more u (.cells #[] 119)) (by omega))
        go_wp2_with (first | (at_builtin; refine BalApp.wp_copy _ rfl _ _ rfl w.heap.size u.heap.size n 0 ps g cap rfl rfl (unhide Z) hp (unhide A5) (by omega) (by simp; omega) ?_) | go_in)
        intro g6 c6 w6 o6 gr6 _
        have O6 := hide o6
        have B6 := hide (((unhide B1).alloc bq (.cells #[] 119)).grown gr6 (by simp; omega) (fun j hj => by cases hj; exact bq))
        clear o6 gr6
        go_wp2
        go_ret2
        exact ⟨ps, 4, g6, c6, unhide P0, by rw [hp]; rfl, by rw [hp]; exact unhide O6, unhide B6⟩
      · have YES := hide ((unhide PY) SC.yes)
        have FN2 := hide ((unhide FU) SC.yes)
        clear PY PN FU
        have e0 : sumIn v z true = v + z := rfl
        rw [e0]
        clear e0
        generalize hS : v + z = S at *
        clear hS
        obtain ⟨p0, hp0⟩ : ∃ p0 : Bool, (S == 0) = p0 := ⟨_, rfl⟩
        have PV := hide (put_val (x, y, S) out p0 (unhide GD) (by rw [← hp0]; simp))
        have LN := hide (putL_len (x, y, S) out p0)
        have HP := hide hp0
        clear hp0
        have k0 : (0 : Int) ≤ (k : Int) := by omega
        have gLu : gL < u.heap.size := by omega
        go_wp2_with fail
        go_region_held3 (fun w' => w'.cell? ⟨gL, k * 3, none⟩ = some (.int .i64 x) ∧ w'.cell? ⟨gL, k * 3 + 1, none⟩ = some (.int .i64 y)) (go_keep)
          (first | (go_at_call 141; refine (sPut _ gO out.length cO out x y S p0 rfl (by omega) (by exact gol) (by exact (unhide O1).at) (unhide HP)).mono ?_; rintro e w5 ⟨g5, c5, rfl, o5, n5⟩; have h1 : w5.cell? ⟨gL, k * 3, none⟩ = some (.int .i64 x) := (n5.cell (p := ⟨gL, k * 3, none⟩) (by exact gLu)).trans (by exact d1); have h2 : w5.cell? ⟨gL, k * 3 + 1, none⟩ = some (.int .i64 y) := (n5.cell (p := ⟨gL, k * 3 + 1, none⟩) (by exact gLu)).trans (by exact d2)))
        have O5 := hide (o5.rebase (base' := w.heap.size) (by have : u.heap.size ≤ g5 := o5.lt.1; omega))
        have B5 := hide (next (unhide B1) (show Below u.heap.size u w5 from ⟨n5.os, n5.tape, n5.output, n5.size, n5.block⟩))
        have VE : val (putL (x, y, S) out p0) = upd (val out) x y S := funext fun b => funext fun j => (unhide PV).2 b j
        have FN3 := hide (show Fine (val (putL (x, y, S) out p0)) from by rw [VE]; exact unhide FN2)
        have YE3 := hide (show posts (val ps) ls = posts (val (putL (x, y, S) out p0)) (ls.drop (k + 1)) from by rw [VE]; exact unhide YES)
        have LL : (putL (x, y, S) out p0).length ≤ out.length + 1 := by have := unhide LN; split at this <;> omega
        have GD3 := hide (unhide PV).1
        clear o5 n5 VE PV LN YES FN2 d1 d2 O1 B1
        generalize putL (x, y, S) out p0 = qs at *
        go_wp2
        go_roundw
        case rel => exact ⟨qs, g5, c5, k + 1, rfl, by go_num, by omega, by omega, O5, B5, GD3, FN3, YE3⟩
        case measure => simp [intOf]; omega
    · obtain rfl : k = m := by omega
      have EP := hide (show posts (val ps) ls = some (val out) from by rw [unhide HE, List.drop_of_length_le (by omega)]; rfl)
      have LO := hide (show ListOf (val out) out from ⟨unhide GD, fun _ _ => rfl⟩)
      clear HE
      go_wp2
      generalize wr = w8 at *
      go_loopw [13] (fun j wr => ∃ (i : Nat), j = .int .i64 i ∧ i ≤ k ∧ Hid (∃ q, wr = w8.drewN q) ∧ Hid (∀ j, j < i → ¬ (val out (el3 ls j).1 (el3 ls j).2.1 < 0 ∧ (el3 ls j).1 ∉ xs))) (fun j _ => k - (intOf j).toNat)
      case atStart => exact ⟨0, rfl, by omega, hide ⟨0, rfl⟩, hide (fun j hj => by omega)⟩
      case round =>
        obtain ⟨i, rfl, hi, HQ, HG⟩ := hrel
        obtain ⟨q8, e8⟩ := unhide HQ
        have O1 := hide (show Own3 119 wr w.heap.size gO out.length cO out from by rw [e8]; exact unhide HO)
        have B1 := hide (show Below w.heap.size w wr from by rw [e8]; exact below_drewN (unhide HB) q8)
        clear e8
        have gol := (unhide O1).lt.2
        have bs := (unhide B1).size
        by_cases t : i < k
        · obtain ⟨e1, e2, e3⟩ := (unhide HL).below (unhide B1) hgL i (by omega)
          obtain ⟨c, SC⟩ := says_of ((el3 ls i).1 ∈ xs)
          have YES := hide (show val out (el3 ls i).1 (el3 ls i).2.1 < 0 ∧ (el3 ls i).1 ∉ xs → Lacks (val out) ls xs from fun q => ⟨i, by omega, q.1, q.2⟩)
          have GO := hide (show ¬ (val out (el3 ls i).1 (el3 ls i).2.1 < 0 ∧ (el3 ls i).1 ∉ xs) → ∀ j, j < i + 1 → ¬ (val out (el3 ls j).1 (el3 ls j).2.1 < 0 ∧ (el3 ls j).1 ∉ xs) from fun q j hj => by
            by_cases e : j = i
            · subst e; exact q
            · exact (unhide HG) j (by omega))
          have OFC := hide (fun q => sOf (wr.drewN q) gO out.length cO out (el3 ls i).1 (el3 ls i).2.1 rfl (by omega) (at_drewN (unhide O1).at q))
          have HAC := hide (fun q => sHas (wr.drewN q) gS s capS xs (el3 ls i).1 c hs s20 (ints_drewN ((unhide HX).below (unhide B1) hgS) q) SC)
          generalize (el3 ls i).1 = x at *
          generalize (el3 ls i).2.1 = y at *
          generalize (el3 ls i).2.2 = z at *
          generalize hv : val out x y = v at *
          have HV := hide hv
          clear hv
          have kn : (i : Int) < (k : Int) := by omega
          by_cases v0 : v < 0
          · cases c
            · have P0 := hide (IsPost.short (val out) (unhide ALL) (unhide EV) (unhide EP) ((unhide YES) ⟨v0, SC.no⟩))
              clear YES GO
              go_wp2_with fail
              go_quiet (first | (go_at_call 66; refine Calls.quiet_of_same ((unhide OFC) _)) | (go_at_call 142; refine Calls.quiet_of_same ((unhide HAC) _)))
              have B2 := hide (below_drewN (unhide B1) nq)
              clear O1 B1 e1 e2 e3 OFC HAC
              generalize wr.drewN nq = u at *
              have A1 := hide ((unhide H).below (unhide B2) hg)
              have bu := (unhide B2).size
              have bq := (unhide B2).size
              have Z := hide (lit30 119 u w.heap.size bq)
              have A5 := hide ((unhide A1).below (one_more u (.cells #[] 119)) (by omega))
              go_wp2_with (first | (at_builtin; refine BalApp.wp_copy _ rfl _ _ rfl w.heap.size u.heap.size n 0 ps g cap rfl rfl (unhide Z) hp (unhide A5) (by omega) (by simp; omega) ?_) | go_in)
              intro g6 c6 w6 o6 gr6 _
              have O6 := hide o6
              have B6 := hide (((unhide B2).alloc bq (.cells #[] 119)).grown gr6 (by simp; omega) (fun j hj => by cases hj; exact bq))
              clear o6 gr6
              go_wp2
              go_ret2
              exact ⟨ps, 3, g6, c6, unhide P0, by rw [hp]; rfl, by rw [hp]; exact unhide O6, unhide B6⟩
            · have G := hide ((unhide GO) (fun q => q.2 SC.yes))
              clear YES GO
              go_wp2_with fail
              go_quiet (first | (go_at_call 66; refine Calls.quiet_of_same ((unhide OFC) _)) | (go_at_call 142; refine Calls.quiet_of_same ((unhide HAC) _)))
              go_wp2
              go_roundw
              case rel => exact ⟨i + 1, by go_num, by omega, hide (drewN_more (unhide HQ) _), G⟩
              case measure => simp [intOf]; omega
          · have G := hide ((unhide GO) (fun q => v0 q.1))
            have v0b : decide (v < 0) = false := decide_eq_false v0
            clear YES GO
            go_wp2_with fail
            go_quiet (first | (go_at_call 66; refine Calls.quiet_of_same ((unhide OFC) _)))
            go_wp2
            go_roundw
            case rel => exact ⟨i + 1, by go_num, by omega, hide (drewN_more (unhide HQ) _), G⟩
            case measure => simp [intOf]; omega
        · obtain rfl : i = k := by omega
          have NL := hide (show ¬ Lacks (val out) ls xs from fun r => by
            obtain ⟨j, hj, q⟩ := r
            exact (unhide HG) j (by omega) q)
          by_cases ln : out.length ≤ 160
          · have ln2 : ¬ (160 : Int) < (out.length : Int) := by omega
            have P0 := hide (IsPost.done (val out) out (unhide ALL) (unhide EV) (unhide EP) (unhide NL) (unhide LO) ln)
            go_wp2
            go_ret2
            exact ⟨out, 0, gO, cO, unhide P0, rfl, unhide O1, unhide B1⟩
          · have ln2 : (160 : Int) < (out.length : Int) := by omega
            have P0 := hide (IsPost.full (val out) out (unhide ALL) (unhide EV) (unhide EP) (unhide NL) (unhide LO) ln)
            have A1 := hide ((unhide H).below (unhide B1) hg)
            have bq := (unhide B1).size
            have Z := hide (lit30 119 wr w.heap.size bq)
            have A5 := hide ((unhide A1).below (one_more wr (.cells #[] 119)) (by omega))
            go_wp2_with (first | (at_builtin; refine BalApp.wp_copy _ rfl _ _ rfl w.heap.size wr.heap.size n 0 ps g cap rfl rfl (unhide Z) hp (unhide A5) (by omega) (by simp; omega) ?_) | go_in)
            intro g6 c6 w6 o6 gr6 _
            have O6 := hide o6
            have B6 := hide (((unhide B1).alloc bq (.cells #[] 119)).grown gr6 (by simp; omega) (fun j hj => by cases hj; exact bq))
            clear o6 gr6
            go_wp2
            go_ret2
            exact ⟨ps, 5, g6, c6, unhide P0, by rw [hp]; rfl, by rw [hp]; exact unhide O6, unhide B6⟩
end Go.Proofs.YtnmeiiaipacplaaGreat.SPost
namespace Go.Proofs.YtnmeiiaipacplaaGreat.SBk
open Go.ChangeShapes Go.WideShapes Go.ChangeAt Go.RowKit BMem Bks ILists BHelp Ans
open Post2 (PostAnswers)
open IBalsFit (one_more)
open ILotsFit (below_of_drew)
open Lots (Says says_of NoOk)
open Bals (T3)
open Tup5 (T5)
structure SV (w W : World) (x : Bx) : Prop where
  x : Box W w.heap.size w.heap.size (.slice (some ⟨x.ga, 0, none⟩) x.b.ac.length x.ca) (.slice (some ⟨x.gi, 0, none⟩) x.b.ic.length x.ci) (.slice (some ⟨x.gb, 0, none⟩) x.b.bs.length x.cb) (.slice (some ⟨x.gl, 0, none⟩) x.b.ls.length x.cl) (.slice (some ⟨x.gt, 0, none⟩) x.b.ts.length x.ct) (.int .i64 x.b.lot)
  v : Box W w.heap.size (w.heap.size + 1) (.slice none 0 0) (.slice none 0 0) (.slice none 0 0) (.slice none 0 0) (.slice none 0 0) (.int .i64 0)
  b : Below w.heap.size w W
theorem SV.start (w : World) (x : Bx) : SV w ((w.alloc (.cells #[.slice (some ⟨x.ga, 0, none⟩) x.b.ac.length x.ca, .slice (some ⟨x.gi, 0, none⟩) x.b.ic.length x.ci, .slice (some ⟨x.gb, 0, none⟩) x.b.bs.length x.cb, .slice (some ⟨x.gl, 0, none⟩) x.b.ls.length x.cl, .slice (some ⟨x.gt, 0, none⟩) x.b.ts.length x.ct, .int .i64 x.b.lot] 36)).alloc (.cells #[.slice none 0 0, .slice none 0 0, .slice none 0 0, .slice none 0 0, .slice none 0 0, .int .i64 0] 36)) x :=
  ⟨World.ownsRow.alloc (Box.made (w := w) (base := w.heap.size) (g := w.heap.size) _ _ _ _ _ _ (Nat.le_refl _) rfl) _, Box.made _ _ _ _ _ _ (by simp) (by simp), ((Below.refl w.heap.size w).alloc (Nat.le_refl _) _).alloc (by simp) _⟩
theorem SV.step {w W W' : World} {x : Bx} (h : SV w W x) (k : Below W.heap.size W W') : SV w W' x := by
  have l := h.v.lt
  exact ⟨h.x.below k (by omega), h.v.below k (by omega), h.b.trans (k.mono h.b.size)⟩
theorem SV.six {w W : World} {x : Bx} (h : SV w W x) : W.cell? ⟨w.heap.size, 0, none⟩ = some (.slice (some ⟨x.ga, 0, none⟩) x.b.ac.length x.ca) ∧ W.cell? ⟨w.heap.size, 1, none⟩ = some (.slice (some ⟨x.gi, 0, none⟩) x.b.ic.length x.ci) ∧ W.cell? ⟨w.heap.size, 2, none⟩ = some (.slice (some ⟨x.gb, 0, none⟩) x.b.bs.length x.cb) ∧ W.cell? ⟨w.heap.size, 3, none⟩ = some (.slice (some ⟨x.gl, 0, none⟩) x.b.ls.length x.cl) ∧ W.cell? ⟨w.heap.size, 4, none⟩ = some (.slice (some ⟨x.gt, 0, none⟩) x.b.ts.length x.ct) ∧ W.cell? ⟨w.heap.size, 5, none⟩ = some (.int .i64 x.b.lot) := ⟨h.x.c0, h.x.c1, h.x.c2, h.x.c3, h.x.c4, h.x.c5⟩
abbrev withB (x : Bx) (g c : Nat) (qs : List T3) : Bx := { x with gb := g, cb := c, b := { x.b with bs := qs } }
theorem ow_withB {w : World} {base g c : Nat} {x : Bx} {qs : List T3} (h : Ow w base x) (o : Triples.Own3 119 w base g qs.length c qs) : Ow w base (withB x g c qs) := ⟨h.oa, h.oi, o, h.ol, h.ot⟩
theorem off_withB {x : Bx} {g c N p : Nat} {qs : List T3} (h : Up x N) (hp : N ≤ p) (hg : p < g) : Off (withB x g c qs) p := by
  unfold Up at h
  unfold Off withB
  simp
  omega
set_option maxRecDepth 100000 in
set_option maxHeartbeats 4000000 in
theorem sPost (w : World) (base : Nat) (x : Bx) (gL capL : Nat) (ls : List T3) (O : Ow w base x) (LI : Lists x.b) (s : Small x.b) (hl : ls.length ≤ 1048576) (hgL : gL < w.heap.size) (hL : Triples.At3 w gL ls) (hf : Bals.Formed ls) (he : Bals.Even ls) :
    Calls Tryz.prog 35 #[.agg #[.slice (some ⟨x.ga, 0, none⟩) x.b.ac.length x.ca, .slice (some ⟨x.gi, 0, none⟩) x.b.ic.length x.ci, .slice (some ⟨x.gb, 0, none⟩) x.b.bs.length x.cb, .slice (some ⟨x.gl, 0, none⟩) x.b.ls.length x.cl, .slice (some ⟨x.gt, 0, none⟩) x.b.ts.length x.ct, .int .i64 x.b.lot], .slice (some ⟨gL, 0, none⟩) ls.length capL] w fun e w' => ∃ (y : Bx) (c : Int), IsPosted x.b ls y.b c ∧ e = .returned (.tuple #[.agg #[.slice (some ⟨y.ga, 0, none⟩) y.b.ac.length y.ca, .slice (some ⟨y.gi, 0, none⟩) y.b.ic.length y.ci, .slice (some ⟨y.gb, 0, none⟩) y.b.bs.length y.cb, .slice (some ⟨y.gl, 0, none⟩) y.b.ls.length y.cl, .slice (some ⟨y.gt, 0, none⟩) y.b.ts.length y.ct, .int .i64 y.b.lot], .int .i64 c]) ∧ Ow w' base y ∧ Below w.heap.size w w' := by
  have R0 := hide (O.rd s)
  have O0 := hide O
  have U0 := hide (ow_up O)
  have L0 := hide hL
  have S1 := hide (SV.start w x)
  have PC := hide (fun qs c (hp : Bals.IsPost x.b.bs ls (shortL x.b.ac) qs c) => post_code hp LI.2.2.1 hf he (Nat.le_trans (short_len _) LI.1.1))
  have xl : (shortL x.b.ac).length ≤ 1048576 := Nat.le_trans (short_len _) s.1
  have nb := s.2.2.1
  have hb := O.oa.lt
  clear O hL hf he LI s
  go_enter Tryz.func35, Tryz.ntmps35
  go_wp2_with fail
  generalize ((w.alloc (.cells #[.slice (some ⟨x.ga, 0, none⟩) x.b.ac.length x.ca, .slice (some ⟨x.gi, 0, none⟩) x.b.ic.length x.ci, .slice (some ⟨x.gb, 0, none⟩) x.b.bs.length x.cb, .slice (some ⟨x.gl, 0, none⟩) x.b.ls.length x.cl, .slice (some ⟨x.gt, 0, none⟩) x.b.ts.length x.ct, .int .i64 x.b.lot] 36)).alloc (.cells #[.slice none 0 0, .slice none 0 0, .slice none 0 0, .slice none 0 0, .slice none 0 0, .int .i64 0] 36)) = w1 at *
  have K4 := (unhide S1).six
  go_region_held3 (fun w' => w'.cell? ⟨w.heap.size, 0, none⟩ = some (.slice (some ⟨x.ga, 0, none⟩) x.b.ac.length x.ca) ∧ w'.cell? ⟨w.heap.size, 1, none⟩ = some (.slice (some ⟨x.gi, 0, none⟩) x.b.ic.length x.ci) ∧ w'.cell? ⟨w.heap.size, 2, none⟩ = some (.slice (some ⟨x.gb, 0, none⟩) x.b.bs.length x.cb) ∧ w'.cell? ⟨w.heap.size, 3, none⟩ = some (.slice (some ⟨x.gl, 0, none⟩) x.b.ls.length x.cl) ∧ w'.cell? ⟨w.heap.size, 4, none⟩ = some (.slice (some ⟨x.gt, 0, none⟩) x.b.ts.length x.ct) ∧ w'.cell? ⟨w.heap.size, 5, none⟩ = some (.int .i64 x.b.lot)) (first | exact K4 | exact K5 | exact K6)
    (first | (go_at_call 91; refine (Shorts.sShort w1.drew x ((unhide R0).below (unhide S1).b.drew)).mono ?_; rintro e w2 ⟨gS, cS, rfl, oS, bb⟩; have bW : Below w1.heap.size w1 w2 := below_of_drew bb; have S2 := hide ((unhide S1).step bW); have K5 := (unhide S2).six; have OS := hide oS; clear oS bb bW) | (go_at_call 90; refine (SPost.sBalsPost w2 x.gb _ x.cb gL _ capL gS _ cS x.b.bs ls (shortL x.b.ac) rfl rfl rfl nb hl xl ((unhide R0).below (unhide S2).b).lb (Nat.lt_of_lt_of_le hgL (unhide S2).b.size) (unhide OS).lt.2 ((unhide R0).below (unhide S2).b).rb ((unhide L0).below (unhide S2).b hgL) (unhide OS).at).mono ?_; rintro e w3 ⟨qs, pc, g5, k5, hp, rfl, o5, bb6⟩; have S3 := hide ((unhide S2).step bb6); have K6 := (unhide S3).six; have HP := hide hp; have O5 := hide o5; have z2 := (unhide S2).v.lt.2; clear hp o5 bb6))
  clear K4 K5 K6
  have OX := hide ((unhide O0).below (unhide S3).b (Nat.le_refl _))
  have g5l := (unhide O5).lt.1
  have c0 := (unhide S3).x.c0
  have c1 := (unhide S3).x.c1
  have c2 := (unhide S3).x.c2
  have c3 := (unhide S3).x.c3
  have c4 := (unhide S3).x.c4
  have c5 := (unhide S3).x.c5
  have r0 := (unhide S3).v.c0
  have r1 := (unhide S3).v.c1
  have r2 := (unhide S3).v.c2
  have r3 := (unhide S3).v.c3
  have r4 := (unhide S3).v.c4
  have r5 := (unhide S3).v.c5
  have f0 := (unhide S3).v.free 0
  have f1 := (unhide S3).v.free 1
  have f2 := (unhide S3).v.free 2
  have f3 := (unhide S3).v.free 3
  have f4 := (unhide S3).v.free 4
  have f5 := (unhide S3).v.free 5
  have x2 := (unhide S3).x.free 2
  have BW := hide (unhide S3).b
  rcases (unhide PC) _ _ (unhide HP) with rfl | rfl | rfl | rfl
  · have IS := hide (show IsPosted x.b ls (withB x g5 k5 qs).b 0 from ⟨qs, 0, unhide HP, .inl ⟨rfl, rfl, rfl⟩⟩)
    have OY := hide (ow_withB (unhide OX) ((unhide O5).rebase (base' := base) (by have := (unhide OX).oa.lt; omega)))
    have F1 := hide (off_withB (c := k5) (qs := qs) (unhide U0) (Nat.le_refl w.heap.size) (show w.heap.size < g5 by omega))
    have F2 := hide (off_withB (c := k5) (qs := qs) (unhide U0) (Nat.le_add_right w.heap.size 1) (show w.heap.size + 1 < g5 by omega))
    go_wp2
    refine bodyPost_ret (v := .tuple #[.agg #[.slice (some ⟨x.ga, 0, none⟩) x.b.ac.length x.ca, .slice (some ⟨x.gi, 0, none⟩) x.b.ic.length x.ci, .slice (some ⟨g5, 0, none⟩) qs.length k5, .slice (some ⟨x.gl, 0, none⟩) x.b.ls.length x.cl, .slice (some ⟨x.gt, 0, none⟩) x.b.ts.length x.ct, .int .i64 x.b.lot], .int .i64 0]) (by simp [results, Tryz.results35, go_sem, r0, r1, r2, r3, r4, r5]) rfl ⟨withB x g5 k5 qs, 0, unhide IS, rfl, ?_, ?_⟩
    · exact ow_six (ow_set (unhide OY) (unhide F1) 2 _) (unhide F2) _ _ _ _ _ _
    · exact Ans.six ((unhide BW).setCell (p := ⟨w.heap.size, 2, none⟩) (Nat.le_refl _) _) (by omega) _ _ _ _ _ _
  · have IS := hide (show IsPosted x.b ls x.b 5 from ⟨qs, 3, unhide HP, .inr (.inl ⟨rfl, rfl, rfl⟩)⟩)
    go_wp2
    refine bodyPost_ret (v := .tuple #[.agg #[.slice (some ⟨x.ga, 0, none⟩) x.b.ac.length x.ca, .slice (some ⟨x.gi, 0, none⟩) x.b.ic.length x.ci, .slice (some ⟨x.gb, 0, none⟩) x.b.bs.length x.cb, .slice (some ⟨x.gl, 0, none⟩) x.b.ls.length x.cl, .slice (some ⟨x.gt, 0, none⟩) x.b.ts.length x.ct, .int .i64 x.b.lot], .int .i64 5]) (by simp [results, Tryz.results35, go_sem, r0, r1, r2, r3, r4, r5]) rfl ⟨x, 5, unhide IS, rfl, ?_, ?_⟩
    · exact ow_six (unhide OX) (off_up (unhide U0) (by omega)) _ _ _ _ _ _
    · exact Ans.six (unhide BW) (by omega) _ _ _ _ _ _
  · have IS := hide (show IsPosted x.b ls x.b 8 from ⟨qs, 4, unhide HP, .inr (.inr (.inl ⟨rfl, rfl, rfl⟩))⟩)
    go_wp2
    refine bodyPost_ret (v := .tuple #[.agg #[.slice (some ⟨x.ga, 0, none⟩) x.b.ac.length x.ca, .slice (some ⟨x.gi, 0, none⟩) x.b.ic.length x.ci, .slice (some ⟨x.gb, 0, none⟩) x.b.bs.length x.cb, .slice (some ⟨x.gl, 0, none⟩) x.b.ls.length x.cl, .slice (some ⟨x.gt, 0, none⟩) x.b.ts.length x.ct, .int .i64 x.b.lot], .int .i64 8]) (by simp [results, Tryz.results35, go_sem, r0, r1, r2, r3, r4, r5]) rfl ⟨x, 8, unhide IS, rfl, ?_, ?_⟩
    · exact ow_six (unhide OX) (off_up (unhide U0) (by omega)) _ _ _ _ _ _
    · exact Ans.six (unhide BW) (by omega) _ _ _ _ _ _
  · have IS := hide (show IsPosted x.b ls x.b 7 from ⟨qs, 5, unhide HP, .inr (.inr (.inr ⟨rfl, rfl, rfl⟩))⟩)
    go_wp2
    refine bodyPost_ret (v := .tuple #[.agg #[.slice (some ⟨x.ga, 0, none⟩) x.b.ac.length x.ca, .slice (some ⟨x.gi, 0, none⟩) x.b.ic.length x.ci, .slice (some ⟨x.gb, 0, none⟩) x.b.bs.length x.cb, .slice (some ⟨x.gl, 0, none⟩) x.b.ls.length x.cl, .slice (some ⟨x.gt, 0, none⟩) x.b.ts.length x.ct, .int .i64 x.b.lot], .int .i64 7]) (by simp [results, Tryz.results35, go_sem, r0, r1, r2, r3, r4, r5]) rfl ⟨x, 7, unhide IS, rfl, ?_, ?_⟩
    · exact ow_six (unhide OX) (off_up (unhide U0) (by omega)) _ _ _ _ _ _
    · exact Ans.six (unhide BW) (by omega) _ _ _ _ _ _
end Go.Proofs.YtnmeiiaipacplaaGreat.SBk
namespace Go.Proofs.YtnmeiiaipacplaaGreat.SIssue
open Go.ChangeShapes Go.WideShapes Go.ChangeAt Go.RowKit BMem Bks ILists BHelp Ans SBk
open IBalsFit (one_more)
open Lots (Says says_of NoOk)
open Quieter (Near near_is quiet_near)
open Bals (T3)
open Tup5 (T5)
theorem posted_small {b b' : Bk} {ls : List T3} {c : Int} (h : IsPosted b ls b' c) (s : Small b) : Small b' := by
  obtain ⟨qs, pc, hp, ⟨_, rfl, _⟩ | ⟨_, rfl, _⟩ | ⟨_, rfl, _⟩ | ⟨_, rfl, _⟩⟩ := h
  · have := hp.len
    obtain ⟨a, b, c, d, e⟩ := s
    exact ⟨a, b, by simp; omega, d, e⟩
  all_goals exact s
theorem row_ne {w : World} {base base' : Nat} {e e' : TypeId} {size size' g n cap g' n' cap' : Nat} {xs xs' : List Value} (h : w.ownsRow base e size (.slice (some ⟨g, 0, none⟩) n cap) n xs) (k : w.ownsRow base' e' size' (.slice (some ⟨g', 0, none⟩) n' cap') n' xs') (ne : e ≠ e') : g ≠ g' := by
  rintro rfl
  rcases h.2 with ⟨h1, _⟩ | ⟨g1, c1, cur1, h1, h2, h3, _⟩
  · simp at h1
  rcases k.2 with ⟨k1, _⟩ | ⟨g2, c2, cur2, k1, k2, k3, _⟩
  · simp at k1
  obtain ⟨rfl, _⟩ : g = g1 ∧ cap = c1 := by simpa using h1
  obtain ⟨rfl, _⟩ : g = g2 ∧ cap' = c2 := by simpa using k1
  rw [h3] at k3
  injection k3 with k3
  injection k3 with _ k3
  exact ne k3
theorem off_box {w : World} {base base' p : Nat} {y : Bx} {v0 v1 v2 v3 v4 v5 : Value} (O : Ow w base y) (B : Box w base' p v0 v1 v2 v3 v4 v5) : Off y p :=
  ⟨row_ne O.oa B (by decide), row_ne O.oi B (by decide), row_ne O.ob B (by decide), row_ne O.ol B (by decide), row_ne O.ot B (by decide)⟩
theorem SR.grown {w W W' : World} {x : Bx} {p : Nat} (H : Rd w x) (h : SR w W x) (k : W.grownBy W' (some p)) (hp : w.heap.size + 1 < p) : SR w W' x := by
  have b : Below w.heap.size w W' := h.b.grown k h.b.size (fun j e => by injection e; omega)
  have n0 : some w.heap.size ≠ some p := fun e => by injection e; omega
  exact ⟨H.below b, ⟨k.cell h.c.c0 n0, k.cell h.c.c1 n0, k.cell h.c.c2 n0, k.cell h.c.c3 n0, k.cell h.c.c4 n0, k.cell h.c.c5 n0⟩, h.v.kept k (fun e => by injection e; omega), b⟩
theorem six_alloc {B : Nat} {a w : World} {g : Nat} (h : Below B a w) (hB : B ≤ w.heap.size) (hg : B ≤ g) (u0 u1 u2 u3 u4 u5 : Value) (o : Obj) : Below B a (((((((w.setCell ⟨g, 0, none⟩ u0).setCell ⟨g, 1, none⟩ u1).setCell ⟨g, 2, none⟩ u2).setCell ⟨g, 3, none⟩ u3).setCell ⟨g, 4, none⟩ u4).setCell ⟨g, 5, none⟩ u5).alloc o) :=
  (six h hg u0 u1 u2 u3 u4 u5).alloc (by simpa using hB) o
theorem ow_six_alloc {w : World} {base base' : Nat} {z : Bx} {g : Nat} (h : Ow w base z) (off : Off z g) (hb : base' ≤ base) (u0 u1 u2 u3 u4 u5 : Value) (o : Obj) : Ow (((((((w.setCell ⟨g, 0, none⟩ u0).setCell ⟨g, 1, none⟩ u1).setCell ⟨g, 2, none⟩ u2).setCell ⟨g, 3, none⟩ u3).setCell ⟨g, 4, none⟩ u4).setCell ⟨g, 5, none⟩ u5).alloc o) base' z :=
  (ow_alloc (ow_six h off u0 u1 u2 u3 u4 u5) o).rebase hb
theorem box_six_alloc {w : World} {base g : Nat} {v0 v1 v2 v3 v4 v5 : Value} (h : Box w base g v0 v1 v2 v3 v4 v5) (u0 u1 u2 u3 u4 u5 : Value) (o : Obj) : Box (((((((w.setCell ⟨g, 0, none⟩ u0).setCell ⟨g, 1, none⟩ u1).setCell ⟨g, 2, none⟩ u2).setCell ⟨g, 3, none⟩ u3).setCell ⟨g, 4, none⟩ u4).setCell ⟨g, 5, none⟩ u5).alloc o) base g u0 u1 u2 u3 u4 u5 := World.ownsRow.alloc (box_six h u0 u1 u2 u3 u4 u5).1 o
theorem to_wb {P : Program} {fn : Func} {R : Ending → World → Prop} {ex : Exit} {a : Act} {W : World} (Pr : World → Prop) (h : Pr W) (k : ∀ W, Pr W → bodyPost P fn R ex a W) : bodyPost P fn R ex a W := k W h
theorem ne_true {a b : Int} (h : a ≠ b) : (a != b) = true := by simpa using h
theorem ne_false {a b : Int} (h : a = b) : (a != b) = false := by simpa using h
theorem eq_true {a b : Int} (h : a = b) : (a == b) = true := by simpa using h
theorem eq_false {a b : Int} (h : ¬ a = b) : (a == b) = false := by simpa using h
end Go.Proofs.YtnmeiiaipacplaaGreat.SIssue
namespace Go.Proofs.YtnmeiiaipacplaaGreat.TBox
open Go.ChangeShapes Go.WideShapes Go.ChangeAt Go.RowKit BMem Bks ILists BHelp Ans Trd
open Tup8 (T8 el8 Own8)
open SIssue (row_ne)
def Box8 (w : World) (base g : Nat) (p : T8) : Prop := w.ownsRow base 110 8 (.slice (some ⟨g, 0, none⟩) 1 1) 1 [.int .i64 p.1, .int .i64 p.2.1, .int .i64 p.2.2.1, .int .i64 p.2.2.2.1, .int .i64 p.2.2.2.2.1, .int .i64 p.2.2.2.2.2.1, .int .i64 p.2.2.2.2.2.2.1, .int .i64 p.2.2.2.2.2.2.2]
theorem Box8.made {w : World} {base g : Nat} (p : T8) (hb : base ≤ w.heap.size) (hg : g = w.heap.size) : Box8 (w.alloc (.cells #[.int .i64 p.1, .int .i64 p.2.1, .int .i64 p.2.2.1, .int .i64 p.2.2.2.1, .int .i64 p.2.2.2.2.1, .int .i64 p.2.2.2.2.2.1, .int .i64 p.2.2.2.2.2.2.1, .int .i64 p.2.2.2.2.2.2.2] 110)) base g p := by
  subst hg
  exact World.ownsRow_lit w #[.int .i64 p.1, .int .i64 p.2.1, .int .i64 p.2.2.1, .int .i64 p.2.2.2.1, .int .i64 p.2.2.2.2.1, .int .i64 p.2.2.2.2.2.1, .int .i64 p.2.2.2.2.2.2.1, .int .i64 p.2.2.2.2.2.2.2] 1 hb (by decide) rfl
section
variable {w w' : World} {base g : Nat} {p : T8}
theorem Box8.lt (h : Box8 w base g p) : base ≤ g ∧ g < w.heap.size := World.ownsRow.lt h g rfl
theorem Box8.free (h : Box8 w base g p) (i : Nat) : w.frozen? ⟨g, i, none⟩ = false := World.ownsRow.frozenAt h i
theorem Box8.c0 (h : Box8 w base g p) : w.cell? ⟨g, 0, none⟩ = some (.int .i64 p.1) := (World.ownsRow.cellAt h 0 (by omega)).trans rfl
theorem Box8.c1 (h : Box8 w base g p) : w.cell? ⟨g, 1, none⟩ = some (.int .i64 p.2.1) := (World.ownsRow.cellAt h 1 (by omega)).trans rfl
theorem Box8.c2 (h : Box8 w base g p) : w.cell? ⟨g, 2, none⟩ = some (.int .i64 p.2.2.1) := (World.ownsRow.cellAt h 2 (by omega)).trans rfl
theorem Box8.c3 (h : Box8 w base g p) : w.cell? ⟨g, 3, none⟩ = some (.int .i64 p.2.2.2.1) := (World.ownsRow.cellAt h 3 (by omega)).trans rfl
theorem Box8.c4 (h : Box8 w base g p) : w.cell? ⟨g, 4, none⟩ = some (.int .i64 p.2.2.2.2.1) := (World.ownsRow.cellAt h 4 (by omega)).trans rfl
theorem Box8.c5 (h : Box8 w base g p) : w.cell? ⟨g, 5, none⟩ = some (.int .i64 p.2.2.2.2.2.1) := (World.ownsRow.cellAt h 5 (by omega)).trans rfl
theorem Box8.below {B : Nat} (h : Box8 w base g p) (k : Below B w w') (hg : g < B) : Box8 w' base g p := by
  refine ⟨h.1, ?_⟩
  rcases h.2 with ⟨h1, _⟩ | ⟨g', c, cur, h1, h2, h3, h4⟩
  · simp at h1
  · obtain ⟨e, _⟩ : g = g' ∧ 1 = c := by simpa using h1
    subst e
    exact Or.inr ⟨g, c, cur, h1, h2, by rw [k.block g hg]; exact h3, h4⟩
theorem Box8.kept {row : Option Nat} (h : Box8 w base g p) (k : w.grownBy w' row) (hne : some g ≠ row) : Box8 w' base g p := World.ownsRow.kept h k (Or.inr hne)
theorem Box8.alloc (h : Box8 w base g p) (o : Obj) : Box8 (w.alloc o) base g p := World.ownsRow.alloc h o
end
end Go.Proofs.YtnmeiiaipacplaaGreat.TBox
namespace Go.Proofs.YtnmeiiaipacplaaGreat.SLegs
open Go.ChangeShapes Go.WideShapes Go.ChangeAt Go.RowKit BMem Bks ILists Trd
open Bals (T3)
open Tup8 (T8 el8)
open Triples (Own3 At3 flat3 flat3_len flat3_one flat3_append own3_of_row)
theorem own_pair (w : World) (a c i q : Int) : Own3 80 (w.alloc (.cells #[.int .i64 a, .int .i64 i, .int .i64 (-q), .int .i64 c, .int .i64 i, .int .i64 q] 80)) w.heap.size w.heap.size 2 2 (pairL a c i q) :=
  World.ownsRow_lit w #[.int .i64 a, .int .i64 i, .int .i64 (-q), .int .i64 c, .int .i64 i, .int .i64 q] 2 (Nat.le_refl _) (by decide) rfl
set_option maxRecDepth 100000 in
theorem sPairO (w : World) (a c i q : Int) (q1 : 0 ≤ q) (q2 : q ≤ 1000000000000000) :
    Calls Tryz.prog 36 #[.int .i64 a, .int .i64 c, .int .i64 i, .int .i64 q] w fun e w' => ∃ g, e = .returned (.slice (some ⟨g, 0, none⟩) 2 2) ∧ Own3 80 w' w.heap.size g 2 2 (pairL a c i q) ∧ Below w.heap.size w w' := by
  have A := hide (own_pair w a c i q)
  go_enter Tryz.func36, Tryz.ntmps36
  go_wp2
  go_ret
  exact ⟨w.heap.size, rfl, unhide A, (Below.refl _ _).alloc (Nat.le_refl _) _⟩
theorem step_cat3 (u : World) {ops : Array Oper} {o : Oper} {a : Act} {K : Act → World → Prop} {Q : Exit → Act → World → Prop} {E : Prop} (hgd : o.guard = none) (s x : Operand)
    (ho : o.op = .call { callee := .builtin .append, args := #[s, x], argTypes := #[66, 66] }) (base g n cap m : Nat) (ps qs : List T3) (vb c : Nat)
    (hs : a.eval s = .slice (some ⟨g, 0, none⟩) n cap) (hx : a.eval x = .slice (some ⟨vb, 0, none⟩) m c) (hown : Own3 80 u base g n cap ps) (hl : qs.length = m) (hv : At3 u vb qs) (hn : n + m ≤ 1048576) (hb : base ≤ u.heap.size)
    (h : ∀ g' c' w', Own3 80 w' base g' (n + m) c' (ps ++ qs) → u.grownBy w' (some g) → (g' = g ∨ g' = u.heap.size) → K (a.put o.dst (.slice (some ⟨g', 0, none⟩) (n + m) c')) w') : if Region.wanted o (yielded ops a.tmps) = true then Oper.wp Tryz.prog o a u K Q else E := by
  obtain ⟨i0, hi, hz0, hz1, hz2⟩ := info_parts LegApp.info2
  have hw : Region.wanted o (yielded ops a.tmps) = true := by simp [Region.wanted, hgd]
  rw [if_pos hw]
  obtain ⟨v', w', hr, own', gr', nil', loc'⟩ := run_append_own_at (P := Tryz.prog) u base 66 o.type 80 i0 (.agg #[.int .i64 0, .int .i64 0, .int .i64 0]) 3 24 Tryz.underlying66 hi hz0 hz1 hz2 rfl (by decide) (.slice (some ⟨g, 0, none⟩) n cap) n (flat3 ps) hown ⟨vb, 0, none⟩ m c (flat3 qs) (by rw [flat3_len, hl]) hv.cells (fun u hu => flat3_one u _ hu) (by unfold maxLen; omega) (by omega) hb
  unfold Oper.wp execOp
  simp only [ho, resolve, invoke, builtin, Sem.run_bind, Sem.run_pure, Result.andThen_ok, List.map_toArray, List.map_cons, List.map_nil, hs, hx, hr]
  obtain ⟨g', c', rfl, o'⟩ := own3_of_row (n' := n + m) (ps := ps ++ qs) own' rfl (by rw [flat3_append]) (by rw [nil']; simp)
  exact h g' c' w' o' gr' (by simpa [Value.ownBlock] using loc')
def Six8 (w : World) (g : Nat) (b s p q c r : Int) : Prop := w.cell? ⟨g, 1, none⟩ = some (.int .i64 b) ∧ w.cell? ⟨g, 2, none⟩ = some (.int .i64 s) ∧ w.cell? ⟨g, 3, none⟩ = some (.int .i64 p) ∧ w.cell? ⟨g, 4, none⟩ = some (.int .i64 q) ∧ w.cell? ⟨g, 5, none⟩ = some (.int .i64 c) ∧ w.cell? ⟨g, 6, none⟩ = some (.int .i64 r)
theorem Six8.below {w w' : World} {g B : Nat} {b s p q c r : Int} (h : Six8 w g b s p q c r) (k : Below B w w') (hg : g < B) : Six8 w' g b s p q c r :=
  ⟨(k.cell (p := ⟨g, 1, none⟩) hg).trans h.1, (k.cell (p := ⟨g, 2, none⟩) hg).trans h.2.1, (k.cell (p := ⟨g, 3, none⟩) hg).trans h.2.2.1, (k.cell (p := ⟨g, 4, none⟩) hg).trans h.2.2.2.1, (k.cell (p := ⟨g, 5, none⟩) hg).trans h.2.2.2.2.1, (k.cell (p := ⟨g, 6, none⟩) hg).trans h.2.2.2.2.2⟩
end Go.Proofs.YtnmeiiaipacplaaGreat.SLegs
namespace Go.Proofs.YtnmeiiaipacplaaGreat.SMove
open Go.ChangeShapes Go.WideShapes Go.ChangeAt Go.RowKit BMem Bks ILists BHelp Ans SBk
open IBalsFit (one_more)
open Lots (Says says_of NoOk)
open Quieter (Near near_is quiet_near)
open Bals (T3)
open Tup5 (T5)
open SIssue (posted_small six_alloc ow_six_alloc box_six_alloc to_wb off_box ne_true ne_false eq_true eq_false)
def AnsM (told : Prop) (P : Bk → Int → Int → Prop) (w : World) (e : Ending) (w' : World) : Prop :=
  (¬ told ∧ e = .returned (.tuple #[.agg #[.slice none 0 0, .slice none 0 0, .slice none 0 0, .slice none 0 0, .slice none 0 0, .int .i64 0], .int .i64 0, .int .i64 1]) ∧ Below w.heap.size w w') ∨
  (told ∧ ∃ (z : Bx) (t c : Int), P z.b t c ∧ e = .returned (.tuple #[.agg #[.slice (some ⟨z.ga, 0, none⟩) z.b.ac.length z.ca, .slice (some ⟨z.gi, 0, none⟩) z.b.ic.length z.ci, .slice (some ⟨z.gb, 0, none⟩) z.b.bs.length z.cb, .slice (some ⟨z.gl, 0, none⟩) z.b.ls.length z.cl, .slice (some ⟨z.gt, 0, none⟩) z.b.ts.length z.ct, .int .i64 z.b.lot], .int .i64 t, .int .i64 c]) ∧ Ow w' w.heap.size z ∧ Below w.heap.size w w')
end Go.Proofs.YtnmeiiaipacplaaGreat.SMove
namespace Go.Proofs.YtnmeiiaipacplaaGreat.SCarryP
open Go.ChangeShapes Go.WideShapes Go.ChangeAt Go.RowKit BMem Bks ILists BHelp Ans SBk
open SIssue (six_alloc ow_six_alloc box_six_alloc to_wb off_box ne_true)
open IBalsFit (one_more)
open Lots (Says says_of NoOk)
open Bals (T3)
open Tup5 (T5)
open Tup8 (T8 el8)
open Trd (legsT)
theorem pair_formed0 {a c i q : Int} (ha : NoOk a) (hc : NoOk c) (hi : NoOk i) (q1 : 0 ≤ q) (q2 : q ≤ 1000000000000000) : ∀ p ∈ pairL a c i q, NoOk p.1 ∧ NoOk p.2.1 ∧ Bals.Amt p.2.2 := by
  intro p hp
  simp only [pairL, List.mem_cons, List.not_mem_nil, or_false] at hp
  rcases hp with rfl | rfl
  · exact ⟨ha, hi, by unfold Bals.Amt; simp; omega⟩
  · exact ⟨hc, hi, by unfold Bals.Amt; simp; omega⟩
theorem legs_even (t : T8) : Bals.Even (legsT t) := by
  intro j
  unfold legsT
  rw [Bals.sumI_append, pair_even _ _ _ _ j, pair_even _ _ _ _ j]
  rfl
end Go.Proofs.YtnmeiiaipacplaaGreat.SCarryP
namespace Go.Proofs.YtnmeiiaipacplaaGreat.Corp
open Bks Trd
open Bals (T3)
open Lots (NoOk)
open MulC (Tells)
theorem tells_is (a b c : Int) : ∃ q r ok, Tells a b c q r ok := by
  by_cases h : a * b / c ≤ 1000000000000000
  · exact ⟨_, _, _, .inl ⟨h, rfl, rfl, rfl⟩⟩
  · exact ⟨_, _, _, .inr ⟨by omega, rfl, rfl, rfl⟩⟩
theorem tells_same {a b c q1 r1 q2 r2 : Int} {o1 o2 : Bool} (h : Tells a b c q1 r1 o1) (k : Tells a b c q2 r2 o2) : q1 = q2 ∧ r1 = r2 ∧ o1 = o2 := by
  rcases h with ⟨h, rfl, rfl, rfl⟩ | ⟨h, rfl, rfl, rfl⟩ <;> rcases k with ⟨k, rfl, rfl, rfl⟩ | ⟨k, rfl, rfl, rfl⟩
  · exact ⟨rfl, rfl, rfl⟩
  · omega
  · omega
  · exact ⟨rfl, rfl, rfl⟩
theorem tells_bd {a b c q r : Int} {o : Bool} (h : Tells a b c q r o) (a0 : 0 ≤ a) (b0 : 0 ≤ b) (c0 : 0 ≤ c) : 0 ≤ q ∧ q ≤ 1000000000000000 := by
  rcases h with ⟨h, rfl, _⟩ | ⟨_, rfl, _⟩
  · exact ⟨Int.ediv_nonneg (Int.mul_nonneg a0 b0) c0, h⟩
  · omega
def legsF (x y f t am got : Int) : List T3 := pairL x y f am ++ pairL y x t got
theorem legsF_even (x y f t am got : Int) : Bals.Even (legsF x y f t am got) := SCarryP.legs_even (0, x, y, t, got, f, am, 0)
def FxNone (b : Bk) (x y f t : Int) : Prop := kindOf b.ac x = 0 ∨ kindOf b.ac y = 0 ∨ kindOf b.ic f = 0 ∨ kindOf b.ic t = 0
def FxKind (b : Bk) (x y f t : Int) : Prop := kindOf b.ac x ≠ 1 ∨ kindOf b.ac y ≠ 3 ∨ kindOf b.ic f ≠ 1 ∨ kindOf b.ic t ≠ 1 ∨ f = t
def IsFx (b : Bk) (x y f t am n d : Int) (b' : Bk) (g c : Int) : Prop :=
  (FxNone b x y f t ∧ b' = b ∧ g = 0 ∧ c = 3) ∨
  (¬ FxNone b x y f t ∧ FxKind b x y f t ∧ b' = b ∧ g = 0 ∧ c = 4) ∨
  (¬ FxNone b x y f t ∧ ¬ FxKind b x y f t ∧ ∃ q r ok, Tells am n d q r ok ∧ ((ok = false ∧ b' = b ∧ g = 0 ∧ c = 8) ∨
    (ok = true ∧ ∃ b1 c1, IsPosted b (legsF x y f t am q) b1 c1 ∧ ((c1 ≠ 0 ∧ b' = b ∧ g = 0 ∧ c = c1) ∨ (c1 = 0 ∧ b' = b1 ∧ g = q ∧ c = 0)))))
theorem IsFx.same {b b1 b2 : Bk} {x y f t am n d g1 g2 c1 c2 : Int} (h : IsFx b x y f t am n d b1 g1 c1) (k : IsFx b x y f t am n d b2 g2 c2) : b1 = b2 ∧ g1 = g2 ∧ c1 = c2 := by
  rcases h with ⟨h, rfl, rfl, rfl⟩ | ⟨h, h2, rfl, rfl, rfl⟩ | ⟨h, h2, q, r, ok, ht, h'⟩ <;> rcases k with ⟨k, rfl, rfl, rfl⟩ | ⟨k, k2, rfl, rfl, rfl⟩ | ⟨k, k2, q', r', ok', kt, k'⟩ <;>
    first | exact ⟨rfl, rfl, rfl⟩ | exact absurd h k | exact absurd k h | exact absurd h2 k2 | exact absurd k2 h2 | skip
  obtain ⟨rfl, rfl, rfl⟩ := tells_same ht kt
  rcases h' with ⟨h3, rfl, rfl, rfl⟩ | ⟨h3, d1, e1, hp, h'⟩ <;> rcases k' with ⟨k3, rfl, rfl, rfl⟩ | ⟨k3, d2, e2, kp, k'⟩
  · exact ⟨rfl, rfl, rfl⟩
  · rw [h3] at k3; cases k3
  · rw [h3] at k3; cases k3
  · obtain ⟨rfl, rfl⟩ := hp.same kp
    rcases h' with ⟨h4, rfl, rfl, rfl⟩ | ⟨h4, rfl, rfl, rfl⟩ <;> rcases k' with ⟨k4, rfl, rfl, rfl⟩ | ⟨k4, rfl, rfl, rfl⟩
    · exact ⟨rfl, rfl, rfl⟩
    · exact absurd k4 h4
    · exact absurd h4 k4
    · exact ⟨rfl, rfl, rfl⟩
end Go.Proofs.YtnmeiiaipacplaaGreat.Corp
namespace Go.Proofs.YtnmeiiaipacplaaGreat.SFx
open Go.ChangeShapes Go.WideShapes Go.ChangeAt Go.RowKit BMem Bks ILists BHelp Ans SBk Corp Trd
open IBalsFit (one_more)
open Lots (Says says_of NoOk)
open Bals (T3)
open Triples (Own3 At3 flat3 flat3_len flat3_one flat3_append own3_of_row)
open SIssue (to_wb off_box six_alloc box_six_alloc ow_six_alloc eq_true eq_false ne_true ne_false)
open SMove (AnsM)
open MulC (Tells)
def ToldF (b : Bk) (fx fy ff ft am nu de : Int) : Prop := Ok b ∧ NoOk fx ∧ NoOk fy ∧ NoOk ff ∧ NoOk ft ∧ (1 ≤ am ∧ am ≤ 1000000000000000) ∧ (1 ≤ nu ∧ nu ≤ 1000000000000000) ∧ (1 ≤ de ∧ de ≤ 1000000000000000)
theorem fx_formed {fx fy ff ft am q : Int} (h1 : NoOk fx) (h2 : NoOk fy) (h3 : NoOk ff) (h4 : NoOk ft) (a1 : 0 ≤ am) (a2 : am ≤ 1000000000000000) (q1 : 0 ≤ q) (q2 : q ≤ 1000000000000000) : Bals.Formed (legsF fx fy ff ft am q) := by
  have a := SCarryP.pair_formed0 h1 h2 h3 a1 a2
  have b := SCarryP.pair_formed0 h2 h1 h4 q1 q2
  refine ⟨by simp [legsF, pairL], fun k hk => ?_⟩
  have m : Bals.el3 (legsF fx fy ff ft am q) k ∈ legsF fx fy ff ft am q := Bals.getD_mem hk
  rcases List.mem_append.1 m with m | m
  · exact a _ m
  · exact b _ m
theorem Off1 {W : World} {base base' g n c : Nat} {xs : List T3} {z : Bx} (O : Ow W base z) (h : Own3 80 W base' g n c xs) : Off z g :=
  ⟨SIssue.row_ne O.oa h (by decide), SIssue.row_ne O.oi h (by decide), SIssue.row_ne O.ob h (by decide), SIssue.row_ne O.ol h (by decide), SIssue.row_ne O.ot h (by decide)⟩
theorem ow_offk {W W' : World} {base g : Nat} {z : Bx} (h : Ow W base z) (k : W.grownBy W' (some g)) (off : Off z g) : Ow W' base z :=
  ⟨h.oa.kept k (fun e => by injection e with e; exact off.1 e), h.oi.kept k (fun e => by injection e with e; exact off.2.1 e), h.ob.kept k (fun e => by injection e with e; exact off.2.2.1 e), h.ol.kept k (fun e => by injection e with e; exact off.2.2.2.1 e), h.ot.kept k (fun e => by injection e with e; exact off.2.2.2.2 e)⟩
theorem wp_cat3 (u : World) {ops : Array Oper} {rest : List Oper} {o : Oper} {a : Act} {Q : Exit → Act → World → Prop} (hgd : o.guard = none) (s x : Operand)
    (ho : o.op = .call { callee := .builtin .append, args := #[s, x], argTypes := #[66, 66] }) (base g n cap m : Nat) (ps qs : List T3) (vb c : Nat)
    (hs : a.eval s = .slice (some ⟨g, 0, none⟩) n cap) (hx : a.eval x = .slice (some ⟨vb, 0, none⟩) m c) (hown : Own3 80 u base g n cap ps) (hl : qs.length = m) (hv : At3 u vb qs) (hn : n + m ≤ 1048576) (hb : base ≤ u.heap.size)
    (h : ∀ g' c' w', Own3 80 w' base g' (n + m) c' (ps ++ qs) → u.grownBy w' (some g) → wpList Tryz.prog ops Q rest (a.put o.dst (.slice (some ⟨g', 0, none⟩) (n + m) c')) w') : wpList Tryz.prog ops Q (o :: rest) a u := by
  obtain ⟨i0, hi, hz0, hz1, hz2⟩ := info_parts LegApp.info2
  refine wpList_append_own_at u hgd s x 66 ho base 80 i0 (.agg #[.int .i64 0, .int .i64 0, .int .i64 0]) 3 24 Tryz.underlying66 hi hz0 hz1 hz2 rfl (by decide) _ n _ hs hown ⟨vb, 0, none⟩ m c (flat3 qs) hx (by rw [flat3_len, hl]) hv.cells (fun u hu => flat3_one u _ hu) (by unfold maxLen; omega) (by omega) hb ?_
  intro v' w' own' gr' nil' loc'
  obtain ⟨g', c', rfl, o'⟩ := own3_of_row (n' := n + m) (ps := ps ++ qs) own' rfl (by rw [flat3_append]) (by rw [nil']; simp)
  exact h g' c' w' o' gr'
set_option maxRecDepth 100000 in
set_option maxHeartbeats 32000000 in
theorem sFx (w : World) (x : Bx) (fx fy ff ft am nu de : Int) (hr : Rd w x) :
    Calls Tryz.prog 8 #[.agg #[.slice (some ⟨x.ga, 0, none⟩) x.b.ac.length x.ca, .slice (some ⟨x.gi, 0, none⟩) x.b.ic.length x.ci, .slice (some ⟨x.gb, 0, none⟩) x.b.bs.length x.cb, .slice (some ⟨x.gl, 0, none⟩) x.b.ls.length x.cl, .slice (some ⟨x.gt, 0, none⟩) x.b.ts.length x.ct, .int .i64 x.b.lot], .int .i64 fx, .int .i64 fy, .int .i64 ff, .int .i64 ft, .int .i64 am, .int .i64 nu, .int .i64 de] w (AnsM (ToldF x.b fx fy ff ft am nu de) (IsFx x.b fx fy ff ft am nu de) w) := by
  obtain ⟨b0, h0⟩ := says_of (Ok x.b)
  obtain ⟨b1, h1⟩ := says_of (NoOk fx)
  obtain ⟨b2, h2⟩ := says_of (NoOk fy)
  obtain ⟨b3, h3⟩ := says_of (NoOk ff)
  obtain ⟨b4, h4⟩ := says_of (NoOk ft)
  obtain ⟨b5, h5⟩ := says_of (1 ≤ am ∧ am ≤ 1000000000000000)
  obtain ⟨b6, h6⟩ := says_of (1 ≤ nu ∧ nu ≤ 1000000000000000)
  obtain ⟨b7, h7⟩ := says_of (1 ≤ de ∧ de ≤ 1000000000000000)
  have H0 := hide h0
  have H1 := hide h1
  have H2 := hide h2
  have H3 := hide h3
  have H4 := hide h4
  have H5 := hide h5
  have H6 := hide h6
  have H7 := hide h7
  have S0 := hide (SR.start hr)
  have HR := hide hr
  clear h0 h1 h2 h3 h4 h5 h6 h7 hr
  go_enter Tryz.func8, Tryz.ntmps8
  go_wp2_with fail
  refine (SBooksOk.sBooksOk _ x b0 (unhide S0).r (unhide H0)).mono ?_
  rintro e w1 ⟨rfl, bb⟩
  have S1 := hide ((unhide S0).step bb)
  have B1 := hide (unhide S1).b
  clear bb
  obtain ⟨c0, c1, c2, c3, c4, c5⟩ := (unhide S1).c
  have r0 := (unhide S1).v.c0
  have r1 := (unhide S1).v.c1
  have r2 := (unhide S1).v.c2
  have r3 := (unhide S1).v.c3
  have r4 := (unhide S1).v.c4
  have r5 := (unhide S1).v.c5
  have f0 := (unhide S1).v.free 0
  have f1 := (unhide S1).v.free 1
  have f2 := (unhide S1).v.free 2
  have f3 := (unhide S1).v.free 3
  have f4 := (unhide S1).v.free 4
  have f5 := (unhide S1).v.free 5
  cases b0
  · have N := hide (show ¬ ToldF x.b fx fy ff ft am nu de from fun hh => (unhide H0).no hh.1)
    go_wp2
    refine bodyPost_ret (v := .tuple #[.agg #[.slice none 0 0, .slice none 0 0, .slice none 0 0, .slice none 0 0, .slice none 0 0, .int .i64 0], .int .i64 0, .int .i64 1]) (by simp [results, Tryz.results8, go_sem, r0, r1, r2, r3, r4, r5]) rfl (.inl ⟨unhide N, rfl, ?_⟩)
    exact six (unhide B1) (by omega) _ _ _ _ _ _
  go_wp2_with fail
  refine (SOk5.sNo fx b1 _ (unhide H1)).mono ?_
  rintro e v1 ⟨rfl, rfl⟩
  cases b1
  · have N := hide (show ¬ ToldF x.b fx fy ff ft am nu de from fun hh => (unhide H1).no hh.2.1)
    go_wp2
    refine bodyPost_ret (v := .tuple #[.agg #[.slice none 0 0, .slice none 0 0, .slice none 0 0, .slice none 0 0, .slice none 0 0, .int .i64 0], .int .i64 0, .int .i64 1]) (by simp [results, Tryz.results8, go_sem, r0, r1, r2, r3, r4, r5]) rfl (.inl ⟨unhide N, rfl, ?_⟩)
    exact six (unhide B1) (by omega) _ _ _ _ _ _
  go_wp2_with fail
  refine (SOk5.sNo fy b2 _ (unhide H2)).mono ?_
  rintro e v2 ⟨rfl, rfl⟩
  cases b2
  · have N := hide (show ¬ ToldF x.b fx fy ff ft am nu de from fun hh => (unhide H2).no hh.2.2.1)
    go_wp2
    refine bodyPost_ret (v := .tuple #[.agg #[.slice none 0 0, .slice none 0 0, .slice none 0 0, .slice none 0 0, .slice none 0 0, .int .i64 0], .int .i64 0, .int .i64 1]) (by simp [results, Tryz.results8, go_sem, r0, r1, r2, r3, r4, r5]) rfl (.inl ⟨unhide N, rfl, ?_⟩)
    exact six (unhide B1) (by omega) _ _ _ _ _ _
  go_wp2_with fail
  refine (SOk5.sNo ff b3 _ (unhide H3)).mono ?_
  rintro e v3 ⟨rfl, rfl⟩
  cases b3
  · have N := hide (show ¬ ToldF x.b fx fy ff ft am nu de from fun hh => (unhide H3).no hh.2.2.2.1)
    go_wp2
    refine bodyPost_ret (v := .tuple #[.agg #[.slice none 0 0, .slice none 0 0, .slice none 0 0, .slice none 0 0, .slice none 0 0, .int .i64 0], .int .i64 0, .int .i64 1]) (by simp [results, Tryz.results8, go_sem, r0, r1, r2, r3, r4, r5]) rfl (.inl ⟨unhide N, rfl, ?_⟩)
    exact six (unhide B1) (by omega) _ _ _ _ _ _
  go_wp2_with fail
  refine (SOk5.sNo ft b4 _ (unhide H4)).mono ?_
  rintro e v4 ⟨rfl, rfl⟩
  cases b4
  · have N := hide (show ¬ ToldF x.b fx fy ff ft am nu de from fun hh => (unhide H4).no hh.2.2.2.2.1)
    go_wp2
    refine bodyPost_ret (v := .tuple #[.agg #[.slice none 0 0, .slice none 0 0, .slice none 0 0, .slice none 0 0, .slice none 0 0, .int .i64 0], .int .i64 0, .int .i64 1]) (by simp [results, Tryz.results8, go_sem, r0, r1, r2, r3, r4, r5]) rfl (.inl ⟨unhide N, rfl, ?_⟩)
    exact six (unhide B1) (by omega) _ _ _ _ _ _
  go_wp2_with fail
  refine (SOk5.sSome am 1 b5 _ (unhide H5)).mono ?_
  rintro e v5 ⟨rfl, rfl⟩
  cases b5
  · have N := hide (show ¬ ToldF x.b fx fy ff ft am nu de from fun hh => (unhide H5).no hh.2.2.2.2.2.1)
    go_wp2
    refine bodyPost_ret (v := .tuple #[.agg #[.slice none 0 0, .slice none 0 0, .slice none 0 0, .slice none 0 0, .slice none 0 0, .int .i64 0], .int .i64 0, .int .i64 1]) (by simp [results, Tryz.results8, go_sem, r0, r1, r2, r3, r4, r5]) rfl (.inl ⟨unhide N, rfl, ?_⟩)
    exact six (unhide B1) (by omega) _ _ _ _ _ _
  go_wp2_with fail
  refine (SOk5.sSome nu 1 b6 _ (unhide H6)).mono ?_
  rintro e v6 ⟨rfl, rfl⟩
  cases b6
  · have N := hide (show ¬ ToldF x.b fx fy ff ft am nu de from fun hh => (unhide H6).no hh.2.2.2.2.2.2.1)
    go_wp2
    refine bodyPost_ret (v := .tuple #[.agg #[.slice none 0 0, .slice none 0 0, .slice none 0 0, .slice none 0 0, .slice none 0 0, .int .i64 0], .int .i64 0, .int .i64 1]) (by simp [results, Tryz.results8, go_sem, r0, r1, r2, r3, r4, r5]) rfl (.inl ⟨unhide N, rfl, ?_⟩)
    exact six (unhide B1) (by omega) _ _ _ _ _ _
  go_wp2_with fail
  refine (SOk5.sSome de 1 b7 _ (unhide H7)).mono ?_
  rintro e v7 ⟨rfl, rfl⟩
  cases b7
  · have N := hide (show ¬ ToldF x.b fx fy ff ft am nu de from fun hh => (unhide H7).no hh.2.2.2.2.2.2.2)
    go_wp2
    refine bodyPost_ret (v := .tuple #[.agg #[.slice none 0 0, .slice none 0 0, .slice none 0 0, .slice none 0 0, .slice none 0 0, .int .i64 0], .int .i64 0, .int .i64 1]) (by simp [results, Tryz.results8, go_sem, r0, r1, r2, r3, r4, r5]) rfl (.inl ⟨unhide N, rfl, ?_⟩)
    exact six (unhide B1) (by omega) _ _ _ _ _ _
  have TT := hide (show ToldF x.b fx fy ff ft am nu de from ⟨(unhide H0).yes, (unhide H1).yes, (unhide H2).yes, (unhide H3).yes, (unhide H4).yes, (unhide H5).yes, (unhide H6).yes, (unhide H7).yes⟩)
  have LI := hide (unhide H0).yes.1
  have SM := hide (ok_small (unhide H0).yes)
  have a1 : 1 ≤ am := (unhide H5).yes.1
  have a2 : am ≤ 1000000000000000 := (unhide H5).yes.2
  have n1 : 1 ≤ nu := (unhide H6).yes.1
  have n2 : nu ≤ 1000000000000000 := (unhide H6).yes.2
  have e1 : 1 ≤ de := (unhide H7).yes.1
  have e2 : de ≤ 1000000000000000 := (unhide H7).yes.2
  clear H0 H1 H2 H3 H4 H5 H6 H7 S0
  clear c0 c1 c2 c3 c4 c5 r0 r1 r2 r3 r4 r5 f0 f1 f2 f3 f4 f5
  obtain ⟨K1, hK1⟩ : ∃ K, Hid (kindOf x.b.ac fx = K) := ⟨_, rfl⟩
  obtain ⟨K2, hK2⟩ : ∃ K, Hid (kindOf x.b.ac fy = K) := ⟨_, rfl⟩
  obtain ⟨K3, hK3⟩ : ∃ K, Hid (kindOf x.b.ic ff = K) := ⟨_, rfl⟩
  obtain ⟨K4, hK4⟩ : ∃ K, Hid (kindOf x.b.ic ft = K) := ⟨_, rfl⟩
  obtain ⟨q, r, ok, htl⟩ := tells_is am nu de
  have TL := hide htl
  have qb := tells_bd htl (by omega) (by omega) (by omega)
  clear htl
  have M1 := trivial
  go_wp2_with fail
  have Q4 := (unhide S1).c.c0
  go_region_held3 (fun w' => w'.cell? ⟨w.heap.size, 0, none⟩ = some (.slice (some ⟨x.ga, 0, none⟩) x.b.ac.length x.ca)) (first | exact Q4 | exact Q5 | exact Q6)
    (first | (go_at_call 31; clear M1; refine (SBals.sKindA v7.drew x fx K1 ((unhide S1).r.below (Below.refl _ _).drew) (unhide LI).1 (unhide hK1)).mono ?_; rintro e u1 ⟨rfl, bb⟩; have bW : Below v7.heap.size v7 u1 := ILotsFit.below_of_drew bb; have T1 := hide ((unhide S1).step bW); have Q5 := (unhide T1).c.c0; clear bb bW) | (go_at_call 31; refine (SBals.sKindA u1 x fy K2 (unhide T1).r (unhide LI).1 (unhide hK2)).mono ?_; rintro e u2 ⟨rfl, bb2⟩; have T2 := hide ((unhide T1).step bb2); have Q6 := (unhide T2).c.c0; clear bb2))
  clear Q4 Q5 Q6 T1
  have M1 := trivial
  go_wp2_with fail
  have Q4 := (unhide T2).c.c1
  go_region_held3 (fun w' => w'.cell? ⟨w.heap.size, 1, none⟩ = some (.slice (some ⟨x.gi, 0, none⟩) x.b.ic.length x.ci)) (first | exact Q4 | exact Q5 | exact Q6)
    (first | (go_at_call 32; clear M1; refine (SBals.sKindI u2.drew x ff K3 ((unhide T2).r.below (Below.refl _ _).drew) (unhide LI).2.1 (unhide hK3)).mono ?_; rintro e u3 ⟨rfl, bb⟩; have bW : Below u2.heap.size u2 u3 := ILotsFit.below_of_drew bb; have T3 := hide ((unhide T2).step bW); have Q5 := (unhide T3).c.c1; clear bb bW) | (go_at_call 32; refine (SBals.sKindI u3 x ft K4 (unhide T3).r (unhide LI).2.1 (unhide hK4)).mono ?_; rintro e u4 ⟨rfl, bb2⟩; have S2 := hide ((unhide T3).step bb2); have Q6 := (unhide S2).c.c1; clear bb2))
  clear Q4 Q5 Q6 T2 T3
  obtain ⟨c0, c1, c2, c3, c4, c5⟩ := (unhide S2).c
  have r0 := (unhide S2).v.c0
  have r1 := (unhide S2).v.c1
  have r2 := (unhide S2).v.c2
  have r3 := (unhide S2).v.c3
  have r4 := (unhide S2).v.c4
  have r5 := (unhide S2).v.c5
  have f0 := (unhide S2).v.free 0
  have f1 := (unhide S2).v.free 1
  have f2 := (unhide S2).v.free 2
  have f3 := (unhide S2).v.free 3
  have f4 := (unhide S2).v.free 4
  have f5 := (unhide S2).v.free 5
  have zero : ((K1 == 0) = true ∨ ((K1 == 0) = false ∧ (K2 == 0) = true) ∨ ((K1 == 0) = false ∧ (K2 == 0) = false ∧ (K3 == 0) = true) ∨ ((K1 == 0) = false ∧ (K2 == 0) = false ∧ (K3 == 0) = false ∧ (K4 == 0) = true)) ∧ Hid (FxNone x.b fx fy ff ft) ∨ ((K1 == 0) = false ∧ (K2 == 0) = false ∧ (K3 == 0) = false ∧ (K4 == 0) = false) ∧ Hid (¬ FxNone x.b fx fy ff ft) := by
    unfold FxNone
    rw [unhide hK1, unhide hK2, unhide hK3, unhide hK4]
    by_cases k1 : K1 = 0
    · exact .inl ⟨.inl (eq_true k1), .inl k1⟩
    by_cases k2 : K2 = 0
    · exact .inl ⟨.inr (.inl ⟨eq_false k1, eq_true k2⟩), .inr (.inl k2)⟩
    by_cases k3 : K3 = 0
    · exact .inl ⟨.inr (.inr (.inl ⟨eq_false k1, eq_false k2, eq_true k3⟩)), .inr (.inr (.inl k3))⟩
    by_cases k4 : K4 = 0
    · exact .inl ⟨.inr (.inr (.inr ⟨eq_false k1, eq_false k2, eq_false k3, eq_true k4⟩)), .inr (.inr (.inr k4))⟩
    · exact .inr ⟨⟨eq_false k1, eq_false k2, eq_false k3, eq_false k4⟩, fun hh => by omega⟩
  obtain ⟨Z, ZZ⟩ | ⟨⟨m1, m2, m3, m4⟩, NZ⟩ := zero
  · have I3 := hide (show IsFx x.b fx fy ff ft am nu de x.b 0 3 from .inl ⟨unhide ZZ, rfl, rfl, rfl⟩)
    clear hK1 hK2 hK3 hK4 ZZ TL
    obtain m1 | ⟨m1, m2⟩ | ⟨m1, m2, m3⟩ | ⟨m1, m2, m3, m4⟩ := Z
    all_goals
      go_wp2_with fail
      refine (SCopy.sCopy _ x (unhide S2).r).mono ?_
      rintro e w8 ⟨z, hz, rfl, oz, bb⟩
      have S8 := hide ((unhide S2).step bb)
      have OZ := hide (oz.rebase (unhide S2).b.size)
      have LZ := hide (ow_lo oz)
      have zl := (unhide S2).v.lt.2
      have IZ := hide (show IsFx x.b fx fy ff ft am nu de z.b 0 3 from by rw [hz]; exact (unhide I3))
      clear bb oz hz
      clear c0 c1 c2 c3 c4 c5 r0 r1 r2 r3 r4 r5 f0 f1 f2 f3 f4 f5
      obtain ⟨c0, c1, c2, c3, c4, c5⟩ := (unhide S8).c
      have r0 := (unhide S8).v.c0
      have r1 := (unhide S8).v.c1
      have r2 := (unhide S8).v.c2
      have r3 := (unhide S8).v.c3
      have r4 := (unhide S8).v.c4
      have r5 := (unhide S8).v.c5
      have f0 := (unhide S8).v.free 0
      have f1 := (unhide S8).v.free 1
      have f2 := (unhide S8).v.free 2
      have f3 := (unhide S8).v.free 3
      have f4 := (unhide S8).v.free 4
      have f5 := (unhide S8).v.free 5
      go_wp2
      refine bodyPost_ret (v := .tuple #[.agg #[.slice (some ⟨z.ga, 0, none⟩) z.b.ac.length z.ca, .slice (some ⟨z.gi, 0, none⟩) z.b.ic.length z.ci, .slice (some ⟨z.gb, 0, none⟩) z.b.bs.length z.cb, .slice (some ⟨z.gl, 0, none⟩) z.b.ls.length z.cl, .slice (some ⟨z.gt, 0, none⟩) z.b.ts.length z.ct, .int .i64 z.b.lot], .int .i64 0, .int .i64 3]) (by simp [results, Tryz.results8, go_sem, r0, r1, r2, r3, r4, r5]) rfl (.inr ⟨unhide TT, z, 0, 3, unhide IZ, rfl, ?_, ?_⟩)
      · exact ow_six (unhide OZ) (off_lo (unhide LZ) zl) _ _ _ _ _ _
      · exact six (unhide S8).b (by omega) _ _ _ _ _ _
  have kinds : ((K1 != 1) = true ∨ ((K1 != 1) = false ∧ (K2 != 3) = true) ∨ ((K1 != 1) = false ∧ (K2 != 3) = false ∧ (K3 != 1) = true) ∨ ((K1 != 1) = false ∧ (K2 != 3) = false ∧ (K3 != 1) = false ∧ (K4 != 1) = true) ∨ ((K1 != 1) = false ∧ (K2 != 3) = false ∧ (K3 != 1) = false ∧ (K4 != 1) = false ∧ (ff == ft) = true)) ∧ Hid (FxKind x.b fx fy ff ft) ∨ ((K1 != 1) = false ∧ (K2 != 3) = false ∧ (K3 != 1) = false ∧ (K4 != 1) = false ∧ (ff == ft) = false) ∧ Hid (¬ FxKind x.b fx fy ff ft) := by
    unfold FxKind
    rw [unhide hK1, unhide hK2, unhide hK3, unhide hK4]
    by_cases k1 : K1 = 1
    · by_cases k2 : K2 = 3
      · by_cases k3 : K3 = 1
        · by_cases k4 : K4 = 1
          · by_cases k5 : ff = ft
            · exact .inl ⟨.inr (.inr (.inr (.inr ⟨ne_false k1, ne_false k2, ne_false k3, ne_false k4, eq_true k5⟩))), .inr (.inr (.inr (.inr k5)))⟩
            · exact .inr ⟨⟨ne_false k1, ne_false k2, ne_false k3, ne_false k4, eq_false k5⟩, fun hh => by omega⟩
          · exact .inl ⟨.inr (.inr (.inr (.inl ⟨ne_false k1, ne_false k2, ne_false k3, ne_true k4⟩))), .inr (.inr (.inr (.inl k4)))⟩
        · exact .inl ⟨.inr (.inr (.inl ⟨ne_false k1, ne_false k2, ne_true k3⟩)), .inr (.inr (.inl k3))⟩
      · exact .inl ⟨.inr (.inl ⟨ne_false k1, ne_true k2⟩), .inr (.inl k2)⟩
    · exact .inl ⟨.inl (ne_true k1), .inl k1⟩
  obtain ⟨Z, ZZ⟩ | ⟨⟨q1, q2, q3, q4, q5⟩, NK⟩ := kinds
  · have I4 := hide (show IsFx x.b fx fy ff ft am nu de x.b 0 4 from .inr (.inl ⟨unhide NZ, unhide ZZ, rfl, rfl, rfl⟩))
    clear hK1 hK2 hK3 hK4 ZZ NZ TL
    obtain q1 | ⟨q1, q2⟩ | ⟨q1, q2, q3⟩ | ⟨q1, q2, q3, q4⟩ | ⟨q1, q2, q3, q4, q5⟩ := Z
    all_goals
      go_wp2_with fail
      refine (SCopy.sCopy _ x (unhide S2).r).mono ?_
      rintro e w8 ⟨z, hz, rfl, oz, bb⟩
      have S8 := hide ((unhide S2).step bb)
      have OZ := hide (oz.rebase (unhide S2).b.size)
      have LZ := hide (ow_lo oz)
      have zl := (unhide S2).v.lt.2
      have IZ := hide (show IsFx x.b fx fy ff ft am nu de z.b 0 4 from by rw [hz]; exact (unhide I4))
      clear bb oz hz
      clear c0 c1 c2 c3 c4 c5 r0 r1 r2 r3 r4 r5 f0 f1 f2 f3 f4 f5
      obtain ⟨c0, c1, c2, c3, c4, c5⟩ := (unhide S8).c
      have r0 := (unhide S8).v.c0
      have r1 := (unhide S8).v.c1
      have r2 := (unhide S8).v.c2
      have r3 := (unhide S8).v.c3
      have r4 := (unhide S8).v.c4
      have r5 := (unhide S8).v.c5
      have f0 := (unhide S8).v.free 0
      have f1 := (unhide S8).v.free 1
      have f2 := (unhide S8).v.free 2
      have f3 := (unhide S8).v.free 3
      have f4 := (unhide S8).v.free 4
      have f5 := (unhide S8).v.free 5
      go_wp2
      refine bodyPost_ret (v := .tuple #[.agg #[.slice (some ⟨z.ga, 0, none⟩) z.b.ac.length z.ca, .slice (some ⟨z.gi, 0, none⟩) z.b.ic.length z.ci, .slice (some ⟨z.gb, 0, none⟩) z.b.bs.length z.cb, .slice (some ⟨z.gl, 0, none⟩) z.b.ls.length z.cl, .slice (some ⟨z.gt, 0, none⟩) z.b.ts.length z.ct, .int .i64 z.b.lot], .int .i64 0, .int .i64 4]) (by simp [results, Tryz.results8, go_sem, r0, r1, r2, r3, r4, r5]) rfl (.inr ⟨unhide TT, z, 0, 4, unhide IZ, rfl, ?_, ?_⟩)
      · exact ow_six (unhide OZ) (off_lo (unhide LZ) zl) _ _ _ _ _ _
      · exact six (unhide S8).b (by omega) _ _ _ _ _ _
  clear hK1 hK2 hK3 hK4
  go_wp2_with fail
  refine (MulC.sMD am nu de q r ok _ (by omega) a2 (by omega) n2 e1 e2 TL).mono ?_
  rintro e v8 ⟨rfl, rfl⟩
  cases ok
  · have I8 := hide (show IsFx x.b fx fy ff ft am nu de x.b 0 8 from .inr (.inr ⟨unhide NZ, unhide NK, q, r, false, unhide TL, .inl ⟨rfl, rfl, rfl, rfl⟩⟩))
    clear NZ NK TL
    go_wp2_with fail
    refine (SCopy.sCopy _ x (unhide S2).r).mono ?_
    rintro e w8 ⟨z, hz, rfl, oz, bb⟩
    have S8 := hide ((unhide S2).step bb)
    have OZ := hide (oz.rebase (unhide S2).b.size)
    have LZ := hide (ow_lo oz)
    have zl := (unhide S2).v.lt.2
    have IZ := hide (show IsFx x.b fx fy ff ft am nu de z.b 0 8 from by rw [hz]; exact (unhide I8))
    clear bb oz hz
    clear c0 c1 c2 c3 c4 c5 r0 r1 r2 r3 r4 r5 f0 f1 f2 f3 f4 f5
    obtain ⟨c0, c1, c2, c3, c4, c5⟩ := (unhide S8).c
    have r0 := (unhide S8).v.c0
    have r1 := (unhide S8).v.c1
    have r2 := (unhide S8).v.c2
    have r3 := (unhide S8).v.c3
    have r4 := (unhide S8).v.c4
    have r5 := (unhide S8).v.c5
    have f0 := (unhide S8).v.free 0
    have f1 := (unhide S8).v.free 1
    have f2 := (unhide S8).v.free 2
    have f3 := (unhide S8).v.free 3
    have f4 := (unhide S8).v.free 4
    have f5 := (unhide S8).v.free 5
    go_wp2
    refine bodyPost_ret (v := .tuple #[.agg #[.slice (some ⟨z.ga, 0, none⟩) z.b.ac.length z.ca, .slice (some ⟨z.gi, 0, none⟩) z.b.ic.length z.ci, .slice (some ⟨z.gb, 0, none⟩) z.b.bs.length z.cb, .slice (some ⟨z.gl, 0, none⟩) z.b.ls.length z.cl, .slice (some ⟨z.gt, 0, none⟩) z.b.ts.length z.ct, .int .i64 z.b.lot], .int .i64 0, .int .i64 8]) (by simp [results, Tryz.results8, go_sem, r0, r1, r2, r3, r4, r5]) rfl (.inr ⟨unhide TT, z, 0, 8, unhide IZ, rfl, ?_, ?_⟩)
    · exact ow_six (unhide OZ) (off_lo (unhide LZ) zl) _ _ _ _ _ _
    · exact six (unhide S8).b (by omega) _ _ _ _ _ _
  go_wp2_with fail
  refine (SCopy.sCopy _ x (unhide S2).r).mono ?_
  rintro e w3 ⟨zc, hzc, rfl, oz, bb⟩
  have S3 := hide ((unhide S2).step bb)
  have OZ := hide (oz.rebase (unhide S2).b.size)
  have HZ := hide hzc
  have s2l := (unhide S2).v.lt
  clear bb oz hzc
  go_wp2_with fail
  refine (SLegs.sPairO _ fx fy ff am (by omega) a2).mono ?_
  rintro e w4 ⟨g1, rfl, o1, bb⟩
  have S4 := hide ((unhide S3).step bb)
  have OZ := hide ((unhide OZ).below bb (Nat.le_refl _))
  have O1 := hide o1
  have s3l := (unhide S3).v.lt
  clear bb o1
  go_wp2_with fail
  refine (SLegs.sPairO _ fy fx ft q qb.1 qb.2).mono ?_
  rintro e w5 ⟨g2, rfl, o2, bb⟩
  have S5 := hide ((unhide S4).step bb)
  have OZ := hide ((unhide OZ).below bb (Nat.le_refl _))
  have O1 := hide ((unhide O1).below bb (unhide O1).lt.2)
  have O2 := hide o2
  have s5 := bb.size
  clear bb o2
  have s4 : w3.heap.size ≤ w5.heap.size := by have := (unhide O1).lt; omega
  go_wp2_with (first | (at_builtin; refine wp_cat3 _ rfl _ _ rfl w3.heap.size g1 2 2 2 (pairL fx fy ff am) (pairL fy fx ft q) g2 2 rfl rfl (unhide O1) rfl (unhide O2).at (by omega) s4 ?_) | go_in)
  intro g3 cp3 w6 o3 gr
  have g1l := (unhide O1).lt
  have OFF := hide (Off1 (unhide OZ) (unhide O1))
  have S6 := hide (SIssue.SR.grown (unhide HR) (unhide S5) gr (by omega))
  have OZ := hide (ow_offk (unhide OZ) gr (unhide OFF))
  have O3 := hide (show Own3 80 w6 w3.heap.size g3 4 cp3 (legsF fx fy ff ft am q) from o3)
  clear o3 gr OFF
  have LF := hide (fx_formed (unhide TT).2.1 (unhide TT).2.2.1 (unhide TT).2.2.2.1 (unhide TT).2.2.2.2.1 (show 0 ≤ am by omega) a2 qb.1 qb.2)
  go_wp2_with fail
  refine (sPost w6 w.heap.size zc g3 cp3 (legsF fx fy ff ft am q) (unhide OZ) (by rw [unhide HZ]; exact unhide LI) (by rw [unhide HZ]; exact unhide SM) (show 4 ≤ 1048576 by omega) (unhide O3).lt.2 (unhide O3).at (unhide LF) (legsF_even fx fy ff ft am q)).mono ?_
  rintro e w7 ⟨y, k1, hpo, rfl, oy, bb⟩
  rw [unhide HZ] at hpo
  have HP := hide hpo
  have S7 := hide ((unhide S6).step bb)
  have S8' := hide ((unhide S7).step (one_more w7 (.cells #[.slice (some ⟨y.ga, 0, none⟩) y.b.ac.length y.ca, .slice (some ⟨y.gi, 0, none⟩) y.b.ic.length y.ci, .slice (some ⟨y.gb, 0, none⟩) y.b.bs.length y.cb, .slice (some ⟨y.gl, 0, none⟩) y.b.ls.length y.cl, .slice (some ⟨y.gt, 0, none⟩) y.b.ts.length y.ct, .int .i64 y.b.lot] 36)))
  have OY := hide oy
  have s7l := (unhide S7).v.lt
  have ne7 : w.heap.size + 1 ≠ w7.heap.size := by omega
  have ne8 : w.heap.size ≠ w7.heap.size := by omega
  clear bb hpo oy c0 c1 c2 c3 c4 c5 r0 r1 r2 r3 r4 r5 f0 f1 f2 f3 f4 f5
  by_cases kz : k1 = 0
  · subst kz
    have IZ := hide (show IsFx x.b fx fy ff ft am nu de y.b q 0 from .inr (.inr ⟨unhide NZ, unhide NK, q, r, true, unhide TL, .inr ⟨rfl, y.b, 0, unhide HP, .inr ⟨rfl, rfl, rfl, rfl⟩⟩⟩))
    have F7 := hide (off_box (unhide OY) (unhide S7).v)
    clear NZ NK TL HP
    obtain ⟨c0, c1, c2, c3, c4, c5⟩ := (unhide S7).c
    have r0 := (unhide S7).v.c0
    have r1 := (unhide S7).v.c1
    have r2 := (unhide S7).v.c2
    have r3 := (unhide S7).v.c3
    have r4 := (unhide S7).v.c4
    have r5 := (unhide S7).v.c5
    have f0 := (unhide S7).v.free 0
    have f1 := (unhide S7).v.free 1
    have f2 := (unhide S7).v.free 2
    have f3 := (unhide S7).v.free 3
    have f4 := (unhide S7).v.free 4
    have f5 := (unhide S7).v.free 5
    go_wp2
    refine to_wb (fun W => Box W w.heap.size (w.heap.size + 1) (.slice (some ⟨y.ga, 0, none⟩) y.b.ac.length y.ca) (.slice (some ⟨y.gi, 0, none⟩) y.b.ic.length y.ci) (.slice (some ⟨y.gb, 0, none⟩) y.b.bs.length y.cb) (.slice (some ⟨y.gl, 0, none⟩) y.b.ls.length y.cl) (.slice (some ⟨y.gt, 0, none⟩) y.b.ts.length y.ct) (.int .i64 y.b.lot) ∧ Ow W w.heap.size y ∧ Below w.heap.size w W) ⟨box_six_alloc (unhide S7).v _ _ _ _ _ _ _, ow_six_alloc (unhide OY) (unhide F7) (Nat.le_refl _) _ _ _ _ _ _ _, six_alloc (unhide S7).b (unhide S7).b.size (by omega) _ _ _ _ _ _ _⟩ ?_
    rintro W ⟨X, OW, B⟩
    have g0 := X.c0
    have g1 := X.c1
    have g2 := X.c2
    have g3 := X.c3
    have g4 := X.c4
    have g5 := X.c5
    exact bodyPost_ret (v := .tuple #[.agg #[.slice (some ⟨y.ga, 0, none⟩) y.b.ac.length y.ca, .slice (some ⟨y.gi, 0, none⟩) y.b.ic.length y.ci, .slice (some ⟨y.gb, 0, none⟩) y.b.bs.length y.cb, .slice (some ⟨y.gl, 0, none⟩) y.b.ls.length y.cl, .slice (some ⟨y.gt, 0, none⟩) y.b.ts.length y.ct, .int .i64 y.b.lot], .int .i64 q, .int .i64 0]) (by simp [results, Tryz.results8, go_sem, g0, g1, g2, g3, g4, g5]) rfl (.inr ⟨unhide TT, y, q, 0, unhide IZ, rfl, OW, B⟩)
  · have kb : (k1 != 0) = true := ne_true kz
    have IE := hide (show IsFx x.b fx fy ff ft am nu de x.b 0 k1 from .inr (.inr ⟨unhide NZ, unhide NK, q, r, true, unhide TL, .inr ⟨rfl, y.b, k1, unhide HP, .inl ⟨kz, rfl, rfl, rfl⟩⟩⟩))
    clear NZ NK TL HP kz
    obtain ⟨c0, c1, c2, c3, c4, c5⟩ := (unhide S8').c
    have r0 := (unhide S8').v.c0
    have r1 := (unhide S8').v.c1
    have r2 := (unhide S8').v.c2
    have r3 := (unhide S8').v.c3
    have r4 := (unhide S8').v.c4
    have r5 := (unhide S8').v.c5
    have f0 := (unhide S8').v.free 0
    have f1 := (unhide S8').v.free 1
    have f2 := (unhide S8').v.free 2
    have f3 := (unhide S8').v.free 3
    have f4 := (unhide S8').v.free 4
    have f5 := (unhide S8').v.free 5
    go_wp2_with fail
    refine (SCopy.sCopy _ x (unhide S8').r).mono ?_
    rintro e w8 ⟨z, hz, rfl, oz, bb⟩
    have S8 := hide ((unhide S8').step bb)
    have OZ := hide (oz.rebase (unhide S8').b.size)
    have LZ := hide (ow_lo oz)
    have zl := (unhide S8').v.lt.2
    have IZ := hide (show IsFx x.b fx fy ff ft am nu de z.b 0 k1 from by rw [hz]; exact (unhide IE))
    clear bb oz hz
    clear c0 c1 c2 c3 c4 c5 r0 r1 r2 r3 r4 r5 f0 f1 f2 f3 f4 f5
    obtain ⟨c0, c1, c2, c3, c4, c5⟩ := (unhide S8).c
    have r0 := (unhide S8).v.c0
    have r1 := (unhide S8).v.c1
    have r2 := (unhide S8).v.c2
    have r3 := (unhide S8).v.c3
    have r4 := (unhide S8).v.c4
    have r5 := (unhide S8).v.c5
    have f0 := (unhide S8).v.free 0
    have f1 := (unhide S8).v.free 1
    have f2 := (unhide S8).v.free 2
    have f3 := (unhide S8).v.free 3
    have f4 := (unhide S8).v.free 4
    have f5 := (unhide S8).v.free 5
    go_wp2
    refine bodyPost_ret (v := .tuple #[.agg #[.slice (some ⟨z.ga, 0, none⟩) z.b.ac.length z.ca, .slice (some ⟨z.gi, 0, none⟩) z.b.ic.length z.ci, .slice (some ⟨z.gb, 0, none⟩) z.b.bs.length z.cb, .slice (some ⟨z.gl, 0, none⟩) z.b.ls.length z.cl, .slice (some ⟨z.gt, 0, none⟩) z.b.ts.length z.ct, .int .i64 z.b.lot], .int .i64 0, .int .i64 k1]) (by simp [results, Tryz.results8, go_sem, r0, r1, r2, r3, r4, r5]) rfl (.inr ⟨unhide TT, z, 0, k1, unhide IZ, rfl, ?_, ?_⟩)
    · exact ow_six (unhide OZ) (off_lo (unhide LZ) zl) _ _ _ _ _ _
    · exact six (unhide S8).b (by omega) _ _ _ _ _ _
end Go.Proofs.YtnmeiiaipacplaaGreat.SFx
