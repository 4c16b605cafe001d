/- Texts of one proof, one behind the other: Lay, Sort3, Out, Post, Entry, ILotsFit, SLots, SBooksOk, SPack13, SSave16, SaveH16, LawV16, IBooksOk, IPack13, ISave16. -/
import Derived.Test.YtagmnociflkhcaaGreatRows
import Derived.Test.YtagmnociflkhcaaGreatPAG1
import Derived.Test.YtagmnociflkhcaaGreatPAG2
import Derived.Test.YtagmnociflkhcaaGreatPAG3
import Derived.Test.YtagmnociflkhcaaGreatPAG4
import Derived.Shelf.SlGeneric
import Derived.Shelf.SlSortCmp.WholeK
import Derived.Ground.SlsfProg
import Derived.WideKeyEntry
import Derived.Deep.RegionHeld3
import Derived.Handy
set_option linter.unusedVariables false
set_option linter.unusedSimpArgs false
namespace Go.Proofs
open Go.Shelf
def Tryz.sortL_ren : Go.Shelf.Ren := ⟨fun | 6 => 191 | 15 => 203 | 14 => 202 | 28 => 216 | 29 => 217 | 20 => 208 | 21 => 209 | 22 => 210 | 23 => 211 | 24 => 212 | 25 => 213 | 26 => 214 | 27 => 215 | 46 => 222 | 47 => 223 | 48 => 224 | 49 => 225 | 50 => 226 | 57 => 227 | n => n, fun | 22 => 36 | 24 => 146 | 25 => 219 | 3 => 3 | 39 => 99 | 0 => 0 | 53 => 190 | 55 => 237 | 4 => 4 | 46 => 230 | 45 => 229 | 50 => 171 | 5 => 5 | 9 => 9 | 66 => 242 | 70 => 246 | 76 => 248 | 77 => 122 | n => n, fun | n => n⟩
theorem Tryz.sortL : Go.Proofs.SlLaysF0.n6 Tryz.prog Tryz.sortL_ren := {
  mixed := by kernel_rfl
  f6 := ⟨Tryz.f191.name, by decide, Tryz.func191.trans (congrArg some (by kernel_rfl))⟩
  f14 := ⟨Tryz.f202.name, by decide, Tryz.func202.trans (congrArg some (by kernel_rfl))⟩
  f15 := Tryz.func203.trans (congrArg some (by kernel_rfl))
  f20 := ⟨Tryz.f208.name, by decide, Tryz.func208.trans (congrArg some (by kernel_rfl))⟩
  f21 := ⟨Tryz.f209.name, by decide, Tryz.func209.trans (congrArg some (by kernel_rfl))⟩
  f22 := ⟨Tryz.f210.name, by decide, Tryz.func210.trans (congrArg some (by kernel_rfl))⟩
  f23 := ⟨Tryz.f211.name, by decide, Tryz.func211.trans (congrArg some (by kernel_rfl))⟩
  f24 := ⟨Tryz.f212.name, by decide, Tryz.func212.trans (congrArg some (by kernel_rfl))⟩
  f25 := ⟨Tryz.f213.name, by decide, Tryz.func213.trans (congrArg some (by kernel_rfl))⟩
  f26 := ⟨Tryz.f214.name, by decide, Tryz.func214.trans (congrArg some (by kernel_rfl))⟩
  f27 := ⟨Tryz.f215.name, by decide, Tryz.func215.trans (congrArg some (by kernel_rfl))⟩
  f28 := Tryz.func216.trans (congrArg some (by kernel_rfl))
  f29 := Tryz.func217.trans (congrArg some (by kernel_rfl))
  f46 := ⟨Tryz.f222.name, by decide, Tryz.func222.trans (congrArg some (by kernel_rfl))⟩
  f47 := Tryz.func223.trans (congrArg some (by kernel_rfl))
  f48 := Tryz.func224.trans (congrArg some (by kernel_rfl))
  f49 := ⟨Tryz.f225.name, by decide, Tryz.func225.trans (congrArg some (by kernel_rfl))⟩
  f50 := ⟨Tryz.f226.name, by decide, Tryz.func226.trans (congrArg some (by kernel_rfl))⟩
  f57 := ⟨Tryz.f227.name, by decide, Tryz.func227.trans (congrArg some (by kernel_rfl))⟩
  t0 := Tryz.underlying0
  a0 := Tryz.isAgg0
  z0 := Tryz.sizeOf0
  v0 := Tryz.zeroValue0
  t3 := Tryz.underlying3
  a3 := Tryz.isAgg3
  z3 := Tryz.sizeOf3
  v3 := Tryz.zeroValue3
  t4 := Tryz.underlying4
  a4 := Tryz.isAgg4
  z4 := Tryz.sizeOf4
  v4 := Tryz.zeroValue4
  t5 := Tryz.underlying5
  a5 := Tryz.isAgg5
  z5 := Tryz.sizeOf5
  v5 := Tryz.zeroValue5
  t9 := Tryz.underlying9
  a9 := Tryz.isAgg9
  z9 := Tryz.sizeOf9
  v9 := Tryz.zeroValue9
  t22 := Tryz.underlying36
  a22 := Tryz.isAgg36
  z22 := Tryz.sizeOf36
  v22 := Tryz.zeroValue36
  t25 := Tryz.underlying219
  a25 := Tryz.isAgg219
  z25 := Tryz.sizeOf219
  v25 := Tryz.zeroValue219
  t39 := Tryz.underlying99
  a39 := Tryz.isAgg99
  z39 := Tryz.sizeOf99
  v39 := Tryz.zeroValue99
  t45 := Tryz.underlying229
  a45 := Tryz.isAgg229
  z45 := Tryz.sizeOf229
  v45 := Tryz.zeroValue229
  t46 := Tryz.underlying230
  a46 := Tryz.isAgg230
  z46 := Tryz.sizeOf230
  v46 := Tryz.zeroValue230
  t50 := Tryz.underlying171
  a50 := Tryz.isAgg171
  z50 := Tryz.sizeOf171
  v50 := Tryz.zeroValue171
  t53 := Tryz.underlying190
  a53 := Tryz.isAgg190
  z53 := Tryz.sizeOf190
  v53 := Tryz.zeroValue190
  t55 := Tryz.underlying237
  a55 := Tryz.isAgg237
  z55 := Tryz.sizeOf237
  v55 := Tryz.zeroValue237
  t66 := Tryz.underlying242
  a66 := Tryz.isAgg242
  z66 := Tryz.sizeOf242
  v66 := Tryz.zeroValue242
  t70 := Tryz.underlying246
  a70 := Tryz.isAgg246
  z70 := Tryz.sizeOf246
  v70 := Tryz.zeroValue246
  t76 := Tryz.underlying248
  a76 := Tryz.isAgg248
  z76 := Tryz.sizeOf248
  v76 := Tryz.zeroValue248
  t77 := Tryz.underlying122
  a77 := Tryz.isAgg122
  z77 := Tryz.sizeOf122
  v77 := Tryz.zeroValue122 }
end Go.Proofs
namespace Go.Proofs.YtagmnociflkhcaaGreat.Sort3
open Go.ChangeShapes Go.WideShapes Go.ChangeAt Go.RowKit Bals Triples Cmp
open Go.Sort (putRow putCells mapBlock onCells Holds SWO PermIn SortedIn grow flatK get_flatK size_flatK HoldsK)
def enc (p : T3) : List Value := [.int .i64 p.1, .int .i64 p.2.1, .int .i64 p.2.2]
def cf (p q : T3) : Int := cmpK p.1 p.2.1 q.1 q.2.1
theorem lt_iff (p q : T3) : ltOf cf p q = true ↔ Bef p q := by
  unfold ltOf cf Bef
  rw [decide_eq_true_eq, cmpK_lt]
theorem lt_not (p q : T3) : ltOf cf p q = false ↔ ¬ Bef p q := by
  rw [← lt_iff]
  simp
theorem swo : SWO (ltOf cf) where
  irrefl x := by rw [lt_not]; exact bef_irrefl x
  trans x y z h1 h2 := by rw [lt_iff] at *; exact bef_trans h1 h2
  ntrans x y z h1 h2 := by rw [lt_not] at *; unfold Bef at *; omega
theorem flat_flatK (d : Array T3) : (flatK enc 3 d).toList = flat3 d.toList := by
  apply List.ext_getElem?
  intro t
  by_cases ht : t < d.size * 3
  · have e1 : (flatK enc 3 d).toList[t]? = some ((enc d[t / 3]!)[t % 3]!) := by
      have := get_flatK enc 3 d t ht
      rw [getElem!_pos _ t (by simpa using ht)] at this
      simp only [Array.getElem?_toList]
      rw [Array.getElem?_eq_getElem (by simpa using ht), this]
    have hq : t / 3 < d.size := by omega
    have e2 : el3 d.toList (t / 3) = d[t / 3]! := by
      rw [getElem!_pos d (t / 3) hq]
      simp [el3, List.getD, hq]
    obtain ⟨f0, f1, f2⟩ := flat3_get d.toList (t / 3) (by simpa using hq)
    rw [e2] at f0 f1 f2
    rw [e1]
    rcases (show t % 3 = 0 ∨ t % 3 = 1 ∨ t % 3 = 2 by omega) with e | e | e
    · rw [show t / 3 * 3 = t by omega] at f0
      rw [f0, e]; rfl
    · rw [show t / 3 * 3 + 1 = t by omega] at f1
      rw [f1, e]; rfl
    · rw [show t / 3 * 3 + 2 = t by omega] at f2
      rw [f2, e]; rfl
  · rw [List.getElem?_eq_none (by simp; omega), List.getElem?_eq_none (by rw [flat3_len]; simp; omega)]
theorem sw_heap (w : World) (blk q : Nat) (d : Array T3) (os : Array Obj) : (sortWorldK enc 3 w blk 0 q d os).heap = (w.heap.modify blk (onCells (putCells id 0 (flatK enc 3 d)))) ++ os := rfl
theorem sw_other (w : World) (blk q : Nat) (d : Array T3) (os : Array Obj) (k : Nat) (hk : k < w.heap.size) (hne : k ≠ blk) : (sortWorldK enc 3 w blk 0 q d os).heap[k]? = w.heap[k]? := by
  rw [sw_heap, Array.getElem?_append_left (by simpa using hk), Array.getElem?_modify, if_neg (Ne.symm hne)]
theorem sw_same (w : World) (blk q : Nat) (d : Array T3) (os : Array Obj) (cur : Array Value) (e : TypeId) (fr : Nat × Nat) (h : w.heap[blk]? = some (.cells cur e fr)) : (sortWorldK enc 3 w blk 0 q d os).heap[blk]? = some (.cells (putCells id 0 (flatK enc 3 d) cur) e fr) := by
  have hb : blk < w.heap.size := (Array.getElem?_eq_some_iff.1 h).1
  rw [sw_heap, Array.getElem?_append_left (by simpa using hb), Array.getElem?_modify, if_pos rfl, h]
  rfl
theorem sw_below (w : World) (blk q : Nat) (d : Array T3) (os : Array Obj) (hb : blk < w.heap.size) : Below blk w (sortWorldK enc 3 w blk 0 q d os) := by
  refine ⟨rfl, rfl, rfl, ?_, fun k hk => ?_⟩
  · rw [sw_heap]; simp
  · exact sw_other w blk q d os k (by omega) (by omega)
theorem put_take (F cur : Array Value) (h : F.size ≤ cur.size) : (putCells id 0 F cur).toList.take F.size = F.toList := by
  apply List.ext_getElem?
  intro i
  by_cases hi : i < F.size
  · rw [List.getElem?_take, if_pos hi]
    have e1 : (putCells id 0 F cur).toList[i]? = some F[i]! := by
      simp [putCells, hi, show i < cur.size by omega]
    rw [e1, getElem!_pos F i hi]
    simp [hi]
  · rw [List.getElem?_take, if_neg hi, List.getElem?_eq_none (by simp; omega)]
theorem own_sorted (w : World) (base blk n cap q : Nat) (d : Array T3) (os : Array Obj) (ps : List T3) (hd : d.size = n) (h : Own3 146 w base blk n cap ps) :
    Own3 146 (sortWorldK enc 3 w blk 0 q d os) base blk n cap d.toList := by
  refine ⟨by rw [flat3_len]; simp [hd], ?_⟩
  rcases h.2 with ⟨z, _⟩ | ⟨g', c, cur, z, hb, hc, h1, h2, h3, h4⟩
  · simp at z
  · obtain ⟨rfl, rfl⟩ : blk = g' ∧ cap = c := by simpa using z
    refine Or.inr ⟨blk, cap, _, rfl, hb, sw_same w blk q d os cur 146 (0, 0) hc, h1, h2, by simpa [putCells] using h3, ?_⟩
    have := put_take (flatK enc 3 d) cur (by rw [size_flatK, hd, h3]; exact Nat.mul_le_mul_right 3 h1)
    rw [size_flatK, hd, flat_flatK] at this
    exact this
theorem holds_of (w : World) (base blk n cap : Nat) (ps : List T3) (h : Own3 146 w base blk n cap ps) : HoldsK enc 3 w blk 0 ps.toArray := by
  intro j hj
  have hl := h.len
  have hj' : j < n * 3 := by simpa [hl] using hj
  refine ⟨?_, by simpa using h.free (0 + j)⟩
  rw [Nat.zero_add]
  have e := World.ownsRow.cellAt h j hj'
  rw [e]
  have f := flat_flatK ps.toArray
  have g : flat3 ps = (flatK enc 3 ps.toArray).toList := by rw [f]
  rw [g, Array.getElem?_toList, Array.getElem?_eq_getElem hj, getElem!_pos _ j hj]
  rfl
set_option maxRecDepth 100000 in
theorem closure (x y : T3) (w : World) : Calls Tryz.prog 192 #[.agg #[.int .i64 x.1, .int .i64 x.2.1, .int .i64 x.2.2], .agg #[.int .i64 y.1, .int .i64 y.2.1, .int .i64 y.2.2]] w fun e w' => e = .returned (.int .i64 (cf x y)) ∧ ∃ q os, w' = grow (w.drewN q) os := by
  obtain ⟨a, i, p⟩ := x
  obtain ⟨b, j, q⟩ := y
  go_enter Tryz.func192, Tryz.ntmps192
  go_wp2_with fail
  refine (compareG a i b j _).mono ?_
  rintro e w1 ⟨rfl, n, os, rfl⟩
  go_wp2
  go_ret
  refine ⟨rfl, n, #[.cells #[.int .i64 a, .int .i64 i, .int .i64 p] 146] ++ #[.cells #[.int .i64 b, .int .i64 j, .int .i64 q] 146] ++ os, ?_⟩
  rw [Go.Sort.alloc_eq_grow, Go.Sort.alloc_eq_grow, Go.Sort.grow_grow]
  exact Go.Sort.grow_grow (w.drewN n) _ _
theorem cmpLays (blk size : Nat) (w : World) : CmpLays Tryz.prog 192 #[] enc 3 cf blk 0 size w := fun _ _ _ _ x y => closure x y _
theorem sorts (w : World) (base blk n cap : Nat) (ps : List T3) (hn : n ≤ 1048576) (ho : Own3 146 w base blk n cap ps) :
    Calls Tryz.prog 191 #[.slice (some ⟨blk, 0, none⟩) n cap, .func (.func 192) #[] #[]] w fun e w' =>
      e = .returned (.tuple #[]) ∧ ∃ qs, qs.Perm ps ∧ qs.Pairwise (fun p q => ¬ Bef q p) ∧ Own3 146 w' base blk n cap qs ∧ Below blk w w' := by
  have hl := ho.len
  have hs : ps.toArray.size = n := by simpa using hl
  have eg : ∀ args w, (callFunc 192 args).run Tryz.prog w = .ok (.enter 192 args) w := enters_of Tryz.func192 (by kernel_rfl) rfl
  have hcon := AnyQ.slices_SortFunc Tryz.sortL 3 Tryz.isAgg146 Tryz.sizeOf146 enc (fun _ => rfl) (fun x v hv => by simp [enc] at hv; rcases hv with rfl | rfl | rfl <;> rfl) cf swo 192 #[] blk 0 cap ps.toArray w eg (cmpLays blk _ w) (holds_of w base blk n cap ps ho) ho.lt.2 (by rw [hs]; omega)
  change Calls Tryz.prog 191 _ _ _ at hcon
  rw [hs] at hcon
  refine hcon.mono ?_
  rintro e w' ⟨rfl, d', q, os, hp, hso, rfl⟩
  have hd : d'.size = n := hp.1.trans hs
  refine ⟨rfl, d'.toList, ?_, ?_, own_sorted w base blk n cap q d' os ps hd ho, sw_below w blk q d' os ho.lt.2⟩
  · have := hp.2.2
    rw [Array.extract_eq_self_of_le (by omega), Array.extract_eq_self_of_le (by omega)] at this
    simpa using this
  · rw [List.pairwise_iff_getElem]
    intro i j hi hj hij
    have hj' : j < d'.size := by simpa using hj
    have := hso i j (Nat.zero_le _) hij (by omega)
    rw [getElem!_pos d' j hj', getElem!_pos d' i (by omega), lt_not] at this
    simpa using this
end Go.Proofs.YtagmnociflkhcaaGreat.Sort3
namespace Go.Proofs.YtagmnociflkhcaaGreat.Out
open Go.ChangeShapes Go.WideShapes Go.ChangeAt Go.RowKit Bals Triples Cmp Tab Look Sort3
def Coll (qs : List T3) (f : Int → Int → Int) (left : Int → Int → Bool) : Prop :=
  qs.Pairwise (fun p q => other p q) ∧ ∀ p : T3, p ∈ qs ↔ p.2.2 ≠ 0 ∧ f p.1 p.2.1 = p.2.2 ∧ Wf p.1 p.2.1 ∧ left p.1 p.2.1 = false
theorem coll_start {f : Int → Int → Int} {left : Int → Int → Bool} (h : ∀ a i, f a i ≠ 0 → left a i = true) : Coll [] f left := by
  refine ⟨List.Pairwise.nil, fun p => ⟨fun h => absurd h List.not_mem_nil, fun ⟨h1, h2, _, h3⟩ => ?_⟩⟩
  rw [h p.1 p.2.1 (by rw [h2]; exact h1)] at h3
  cases h3
theorem coll_zero {qs : List T3} {f : Int → Int → Int} {left left' : Int → Int → Bool} {a i : Int} (h : Coll qs f left) (hl : ∀ b j, Wf b j → left' b j = (left b j && !decide (b = a ∧ j = i))) (hz : f a i = 0) : Coll qs f left' := by
  refine ⟨h.1, fun p => ?_⟩
  rw [h.2 p]
  constructor
  · rintro ⟨h1, h2, h3, h4⟩
    exact ⟨h1, h2, h3, by rw [hl _ _ h3, h4]; rfl⟩
  · rintro ⟨h1, h2, h3, h4⟩
    refine ⟨h1, h2, h3, ?_⟩
    rw [hl _ _ h3] at h4
    by_cases e : p.1 = a ∧ p.2.1 = i
    · rw [e.1, e.2, hz] at h2
      exact absurd h2.symm h1
    · simpa [e] using h4
theorem coll_more {qs : List T3} {f : Int → Int → Int} {left left' : Int → Int → Bool} {a i : Int} (h : Coll qs f left) (hw : Wf a i) (hla : left a i = true) (hl : ∀ b j, Wf b j → left' b j = (left b j && !decide (b = a ∧ j = i))) (hz : f a i ≠ 0) : Coll (qs ++ [(a, i, f a i)]) f left' := by
  refine ⟨?_, fun p => ?_⟩
  · rw [List.pairwise_append]
    refine ⟨h.1, List.pairwise_singleton _ _, fun p hp q hq => ?_⟩
    rw [List.mem_singleton] at hq
    subst hq
    obtain ⟨_, _, _, h4⟩ := (h.2 p).1 hp
    unfold other
    show a ≠ p.1 ∨ i ≠ p.2.1
    refine Classical.byContradiction fun n => ?_
    have n1 : p.1 = a := Classical.byContradiction fun q => n (.inl (Ne.symm q))
    have n2 : p.2.1 = i := Classical.byContradiction fun q => n (.inr (Ne.symm q))
    rw [n1, n2, hla] at h4
    cases h4
  · rw [List.mem_append, List.mem_singleton, h.2 p]
    constructor
    · rintro (⟨h1, h2, h3, h4⟩ | rfl)
      · exact ⟨h1, h2, h3, by rw [hl _ _ h3, h4]; rfl⟩
      · exact ⟨hz, rfl, hw, by rw [hl _ _ hw]; simp⟩
    · rintro ⟨h1, h2, h3, h4⟩
      by_cases e : p.1 = a ∧ p.2.1 = i
      · obtain ⟨p1, p2, p3⟩ := p
        obtain ⟨rfl, rfl⟩ := e
        simp only at h2
        subst h2
        exact .inr rfl
      · rw [hl _ _ h3] at h4
        exact .inl ⟨h1, h2, h3, by simpa [e] using h4⟩
theorem coll_end {qs rs : List T3} {f : Int → Int → Int} {left : Int → Int → Bool} (h : Coll qs f left) (hf : ∀ a i, f a i ≠ 0 → Wf a i) (hl : ∀ a i, Wf a i → left a i = false) (hp : rs.Perm qs) (hs : rs.Pairwise (fun p q => ¬ Bef q p)) : ListOf f rs := by
  have hd : rs.Pairwise (fun p q => other p q) := (hp.pairwise_iff (fun {a b} (o : other a b) => by unfold other at o ⊢; rcases o with o | o; exact .inl (Ne.symm o); exact .inr (Ne.symm o))).2 h.1
  have asc : rs.Pairwise Bef := by
    rw [List.pairwise_iff_getElem] at hs hd ⊢
    intro i j hi hj hij
    have h1 := hs i j hi hj hij
    have h2 := hd i j hi hj hij
    unfold other at h2
    unfold Bef at h1 ⊢
    omega
  have mem : ∀ p : T3, p ∈ rs ↔ p.2.2 ≠ 0 ∧ f p.1 p.2.1 = p.2.2 := fun p => by
    rw [hp.mem_iff, h.2 p]
    constructor
    · rintro ⟨h1, h2, _⟩
      exact ⟨h1, h2⟩
    · rintro ⟨h1, h2⟩
      have w := hf p.1 p.2.1 (by rw [h2]; exact h1)
      exact ⟨h1, h2, w, hl _ _ w⟩
  refine ⟨⟨asc, fun p hp' => ((mem p).1 hp').1⟩, fun a i => ?_⟩
  by_cases z : f a i = 0
  · rw [z]
    refine Classical.byContradiction fun nz => ?_
    have hm := val_mem rs a i nz
    have := ((mem _).1 hm).2
    simp only at this
    rw [z] at this
    exact nz this.symm
  · have hm := (mem (a, i, f a i)).2 ⟨z, rfl⟩
    exact val_of_mem rs asc _ hm
theorem own_apart {e : TypeId} {w : World} {base g n cap : Nat} {ps : List T3} {B r m : Nat} {f : Int → Int → Int} {left : Int → Int → Bool} {cnt : Nat} (h : Own3 e w base g n cap ps) (k : RTab w B r m f left cnt) : g ≠ B ∧ g ≠ r := by
  obtain ⟨D, lf, ⟨es, clock, since, seen, c0, hb, _, _, _, hr, _⟩, _⟩ := k
  rcases h.2 with ⟨z, _⟩ | ⟨g', c, cur, z, _, hc, _⟩
  · simp at z
  · obtain ⟨rfl, rfl⟩ : g = g' ∧ cap = c := by simpa using z
    constructor
    · intro e
      rw [e, hb] at hc
      simp at hc
    · intro e
      rw [e, hr] at hc
      simp at hc
theorem Tab.wf {w : World} {B n : Nat} {f : Int → Int → Int} (h : Tab w B n f) : ∀ a i, f a i ≠ 0 → Wf a i := by
  obtain ⟨D, _, h2⟩ := h
  exact h2.2
set_option maxRecDepth 100000 in
set_option maxHeartbeats 32000000 in
theorem iBals (w : World) (B n : Nat) (f : Int → Int → Int) (hn : n ≤ 100000) (ht : Tab w B n f) :
    Calls Tryz.prog 171 #[.map (some B)] w fun e w' => ∃ qs g c, ListOf f qs ∧ qs.length ≤ n ∧ e = .returned (.slice (some ⟨g, 0, none⟩) qs.length c) ∧ Own3 146 w' w.heap.size g qs.length c qs ∧ Below w.heap.size w w' := by
  have hB := ht.lt
  have HWF := hide (Tab.wf ht)
  have t1 := ht.kept (World.grownBy_alloc w (.cells #[] 146) none) (by simp)
  have HT := hide t1
  have O0 := hide (lit30 146 w w.heap.size (Nat.le_refl _))
  have B0 := hide (show Below w.heap.size w (w.alloc (.cells #[] 146)) from (Below.refl _ _).alloc (Nat.le_refl _) _)
  clear ht t1
  go_enter Tryz.func171, Tryz.ntmps171
  go_wp2_with (first | (at_range; refine wp_range _ rfl _ 201 rfl Tryz.underlying201 B n f rfl (unhide HT) ?_; intro w0 left0 cnt0 rt0 c0 lz0 g0 s0) | go_in)
  go_frame
  have RT := hide rt0
  have CO := hide (coll_start lz0)
  have O1 := hide ((unhide O0).kept g0 (by simp))
  have B1 := hide (next (unhide B0) (grownBy_below g0))
  clear rt0 lz0 g0 HT O0 B0
  simp only [World.size_alloc] at RT s0
  simp only [World.size_alloc]
  generalize hR : w.heap.size + 1 = R at *
  have hRl : w.heap.size < R := by omega
  go_loopw [3, 4, 5] (fun l _ _ wr => ∃ (qs : List T3) (g c : Nat) (left : Int → Int → Bool) (cnt : Nat), l = .slice (some ⟨g, 0, none⟩) qs.length c ∧ Hid (Own3 146 wr w.heap.size g qs.length c qs) ∧ Hid (RTab wr B R n f left cnt) ∧ Hid (Coll qs f left) ∧ qs.length + cnt ≤ n ∧ Hid (Below w.heap.size w wr)) (fun _ _ _ wr => wr.rangeLeft B R)
  case atStart => exact ⟨[], w.heap.size, 0, left0, cnt0, rfl, O1, RT, CO, by simpa using c0, B1⟩
  case round =>
    clear RT CO O1 B1 c0 s0
    obtain ⟨qs, g, c, left, cnt, rfl, HO, RT, CO, hc, HB⟩ := hrel
    go_wp2_with (first | (at_next; refine wp_next _ rfl _ rfl B R n f left cnt rfl (unhide RT) ?_ ?_) | go_in)
    · intro c0 l0
      have LZ := hide l0
      have sz := (unhide HO).lt
      clear l0
      go_wp2_with fail
      refine (sorts _ w.heap.size g qs.length c qs (by omega) (unhide HO)).mono ?_
      rintro e w2 ⟨rfl, rs, hp, hs, o2, b2⟩
      have LO := hide (coll_end (unhide CO) (unhide HWF) (unhide LZ) hp hs)
      have el : rs.length = qs.length := hp.length_eq
      have O2 := hide o2
      have B2 := hide ((unhide HB).trans (b2.mono sz.1))
      clear hp hs o2 b2
      go_wp2
      go_ret
      exact ⟨rs, g, c, unhide LO, by omega, by rw [el]; rfl, by rw [el]; exact unhide O2, unhide B2⟩
    · intro a i w2 left2 cnt2 wf wv la l2 rt2 lt2 g2 s2 hen
      have l2 : ∀ b j, Wf b j → left2 b j = (left b j && !decide (b = a ∧ j = i)) := fun b j h => by
        rw [l2 b j h]
        by_cases e1 : b = a <;> by_cases e2 : j = i <;> simp [e1, e2]
      have ap := own_apart (unhide HO) (unhide RT)
      have ML := hide (show w2.rangeLeft B R < wr.rangeLeft B R by rw [rt2.lt.2.2.2, (unhide RT).lt.2.2.2]; exact lt2)
      have RT2 := hide rt2
      have O2 := hide ((unhide HO).kept g2 (by simp; exact ap.2))
      have B2 := hide ((unhide HB).grown g2 (unhide HB).size (fun j hj => by cases hj; exact Nat.le_of_lt hRl))
      have CZ := hide (fun hz => coll_zero (unhide CO) l2 hz)
      have CM := hide (fun hz => coll_more (unhide CO) wf la l2 hz)
      clear rt2 l2 g2 s2 la wf wv CO
      generalize f a i = v at *
      have O3 := hide ((unhide O2).alloc (.cells #[.int .i64 a, .int .i64 i] 203))
      have R3 := hide ((unhide RT2).kept (World.grownBy_alloc w2 (.cells #[.int .i64 a, .int .i64 i] 203) none) (by simp) (by simp))
      have B3 := hide ((unhide B2).alloc (unhide B2).size (.cells #[.int .i64 a, .int .i64 i] 203))
      have M3 : World.rangeLeft (w2.alloc (.cells #[.int .i64 a, .int .i64 i] 203)) B R = w2.rangeLeft B R := by rw [(unhide R3).lt.2.2.2, (unhide RT2).lt.2.2.2]
      have M3 := hide M3
      have bs := (unhide B2).size
      by_cases v0 : v = 0
      · have CC := hide ((unhide CZ) v0)
        clear CZ CM
        subst v0
        go_wp2
        go_roundw
        case rel => exact ⟨qs, g, c, left2, cnt2, rfl, O3, R3, CC, by omega, B3⟩
        case measure => rw [unhide M3]; exact unhide ML
      · have CC := hide ((unhide CM) v0)
        have v0b : (v == 0) = false := by simpa using v0
        clear CZ CM
        have O4 := hide ((unhide O3).alloc (.cells #[.int .i64 a, .int .i64 i, .int .i64 v] 146))
        have R4 := hide ((unhide R3).kept (World.grownBy_alloc _ (.cells #[.int .i64 a, .int .i64 i, .int .i64 v] 146) none) (by simp) (by simp))
        have B4 := hide ((unhide B3).alloc (unhide B3).size (.cells #[.int .i64 a, .int .i64 i, .int .i64 v] 146))
        have V4 := hide (show Holds3 ((w2.alloc (.cells #[.int .i64 a, .int .i64 i] 203)).alloc (.cells #[.int .i64 a, .int .i64 i, .int .i64 v] 146)) (w2.heap.size + 1) 0 (a, i, v) from by unfold Holds3; simp)
        go_wp2_with (first | (at_builtin; refine BalApp.wp_app _ rfl _ _ rfl w.heap.size g qs.length c qs (w2.heap.size + 1) a i v rfl rfl (unhide O4) (unhide V4) (by omega) (by simp; omega) ?_; intro g5 c5 w5 o5 gr5 _) | go_in)
        have R5 := hide ((unhide R4).kept gr5 (by simp; exact Ne.symm ap.1) (by simp; exact Ne.symm ap.2))
        have M5 := hide (show w5.rangeLeft B R = w2.rangeLeft B R by rw [(unhide R5).lt.2.2.2, (unhide RT2).lt.2.2.2])
        have B5 := hide ((unhide B4).grown gr5 (by simp; omega) (fun j hj => by cases hj; exact (unhide HO).lt.1))
        have el : (qs ++ [(a, i, v)]).length = qs.length + 1 := by simp
        have O5 := hide o5
        clear o5 gr5
        go_wp2
        go_roundw
        case rel => exact ⟨qs ++ [(a, i, v)], g5, c5, left2, cnt2, by rw [el], hide (by rw [el]; exact unhide O5), R5, CC, by rw [el]; omega, B5⟩
        case measure => rw [unhide M5]; exact unhide ML
end Go.Proofs.YtagmnociflkhcaaGreat.Out
namespace Go.Proofs.YtagmnociflkhcaaGreat.Post
open Go.ChangeShapes Go.WideShapes Go.ChangeAt Go.RowKit Bals Triples Cmp SOk3 IOk3 Tab Look Out Legs
theorem look_run {w : World} {B n : Nat} {f : Int → Int → Int} (h : Tab w B n f) {a i : Int} (hw : Wf a i) : (Instr.lookup 201 (.map (some B)) (.agg #[.int .i64 a, .int .i64 i]) false).run Tryz.prog w = .ok (.int .i64 (f a i)) w := by
  obtain ⟨D, h1, h2, _⟩ := h
  obtain ⟨c, hrun, hat, _⟩ := h1.lookup_int law Tryz.underlying201 Tryz.underlying3 (zero _) (key_of hw)
  rw [h2 a i hw] at hat
  have : f a i = c := by simpa using hat
  rw [this]
  exact hrun
end Go.Proofs.YtagmnociflkhcaaGreat.Post
namespace Go.Proofs.YtagmnociflkhcaaGreat.Entry
open Go.ChangeShapes Go.WideShapes Go.ChangeAt Go.RowKit Bals Tab Post
open Go.MapKept Go.ChangeMaps Go.WideElems
open Go.WideMaps (KeyLaw)
set_option maxRecDepth 100000 in
theorem klaw : KeyLaw Tryz.prog 203 := deep_law_laid laidOut (m := 2) (by omega) row (by kernel_rfl) wide
theorem owns_block {H : Type} {P : Program} {k : TypeId} {R : Value → Option (DataW H × List MemPlace)} {w w' : World} {b n : Nat} {D : DataW H} (h : w.ownsMap P k R b n D) (e : w'.heap[b]? = w.heap[b]?) : w'.ownsMap P k R b n D := by
  obtain ⟨es, clock, hb, F, hs, hD⟩ := h
  exact ⟨es, clock, e.trans hb, F, hs, hD⟩
theorem tab_block {w w' : World} {B n : Nat} {f : Int → Int → Int} (h : Tab w B n f) (e : w'.heap[B]? = w.heap[B]?) : Tab w' B n f := by
  obtain ⟨D, h1, h2⟩ := h
  exact ⟨D, owns_block h1 e, h2⟩
theorem put_run {w : World} {B n : Nat} {f : Int → Int → Int} (h : Tab w B n f) (hn : n ≤ 1048576) {a i v : Int} (hw : Wf a i) (hv : (Lit.int .i64 v).wf = true) :
    ∃ w', (Instr.mapUpdate 201 (.map (some B)) (.agg #[.int .i64 a, .int .i64 i]) (.int .i64 v)).run Tryz.prog w = .ok () w' ∧ Tab w' B (n + 1) (upd f a i v) ∧ w.grownBy w' (some B) := by
  obtain ⟨D, h1, h2⟩ := h
  obtain ⟨w', r, o, g⟩ := h1.update law Tryz.underlying201 (by unfold maxLen; omega) (key_of hw) (plainElem_int Tryz.underlying3 hv)
  exact ⟨w', r, ⟨_, o, tells_put h2 (isMap_of h1) hw⟩, g⟩
set_option maxRecDepth 100000 in
theorem entry_run {w : World} {B n : Nat} {f : Int → Int → Int} (h : Tab w B n f) (hn : n ≤ 1048576) {a i : Int} (hw : Wf a i) :
    ∃ (v0 : Value) (st : Nat) (w2 : World), (Instr.mapEntry 201 (.map (some B)) (.agg #[.int .i64 a, .int .i64 i])).run Tryz.prog w = .ok (.tuple #[v0, goInt st]) w2 ∧ Tab w2 B (n + 1) f ∧ w.grownBy w2 (some B) ∧
      ∀ v : Int, (Lit.int .i64 v).wf = true → ∃ w3, (Instr.entryStore 201 (.map (some B)) (goInt st) (.int .i64 v)).run Tryz.prog w2 = .ok () w3 ∧ Tab w3 B (n + 1) (upd f a i v) ∧ w.grownBy w3 (some B) := by
  have h' := h
  obtain ⟨D, ⟨es, clock, hb, F, hs, hD⟩, hT⟩ := h
  obtain ⟨v0, st, es1, clock1, hE, hd, hS⟩ := entry_then_store klaw Tryz.underlying201 (z := .int .i64 0) zero hb F (key_of hw)
  refine ⟨v0, st, _, hE, ?_, ⟨rfl, rfl, rfl, by simp [setBlock], fun j _ hj => heap_setBlock_other hb _ (fun e => hj (by rw [e]))⟩, fun v hv => ?_⟩
  · rcases law.find w (key_of hw) es.toList F.keys with ⟨h1, h2⟩ | ⟨j, e0, h1, h2, h3⟩
    · have hE' : (Instr.mapEntry 201 (.map (some B)) (.agg #[.int .i64 a, .int .i64 i])).run Tryz.prog w = .ok (.tuple #[.int .i64 0, goInt clock]) (setBlock w B (.map (es.push ⟨.agg #[.int .i64 a, .int .i64 i], .int .i64 0, clock⟩) (clock + 1))) := by
        simp [Instr.mapEntry, run_underlying Tryz.underlying201, MapKept.run_getObj_map hb, law.check w false (key_of hw), h1, zero, MapKept.run_setObj_map _ hb, Result.andThen, setBlock]
      obtain ⟨w', r, t, g⟩ := put_run h' hn (v := 0) hw (by decide)
      have r' : (Instr.mapUpdate 201 (.map (some B)) (.agg #[.int .i64 a, .int .i64 i]) (.int .i64 0)).run Tryz.prog w = .ok () (setBlock w B (.map (es.push ⟨.agg #[.int .i64 a, .int .i64 i], .int .i64 0, clock⟩) (clock + 1))) := by
        simp [Instr.mapUpdate, run_underlying Tryz.underlying201, MapKept.run_getObj_map hb, law.check w false (key_of hw), h1, MapKept.run_setObj_map _ hb, Result.andThen, setBlock]
      have ew : setBlock w B (.map es1 clock1) = w' := by
        rw [hE] at hE'
        rw [r] at r'
        injection hE' with _ e1
        injection r' with _ e2
        rw [e1, e2]
      have fz : f a i = 0 := by
        have l1 := look_run h' hw
        have l2 : (Instr.lookup 201 (.map (some B)) (.agg #[.int .i64 a, .int .i64 i]) false).run Tryz.prog w = .ok (.int .i64 0) w := by
          simp [Instr.lookup, run_underlying Tryz.underlying201, MapKept.run_getObj_map hb, fun em => law.check w em (key_of hw), h1, zero, Result.andThen]
        rw [l1] at l2
        injection l2 with e1 _
        simpa using e1
      rw [ew]
      refine t.congr fun b j => ?_
      unfold upd
      by_cases e : b = a ∧ j = i
      · rw [if_pos e, e.1, e.2, fz]
      · rw [if_neg e]
    · have hj : es[j]? = some e0 := by simpa using h2
      have hsame : es.modify j (fun e => { e with key := .agg #[.int .i64 a, .int .i64 i] }) = es := by
        apply Array.ext'
        rw [Array.toList_modify, modify_eq_set _ _ _ _ h2]
        have : ({ e0 with key := .agg #[.int .i64 a, .int .i64 i] } : MapEntry) = e0 := by rw [← h3]
        rw [this]
        exact set_self _ _ _ h2
      have hE' : (Instr.mapEntry 201 (.map (some B)) (.agg #[.int .i64 a, .int .i64 i])).run Tryz.prog w = .ok (.tuple #[e0.val, goInt e0.born]) (setBlock w B (.map es clock)) := by
        simp [Instr.mapEntry, run_underlying Tryz.underlying201, MapKept.run_getObj_map hb, law.check w false (key_of hw), h1, hj, h3, law.stays w (key_of hw), hsame, MapKept.run_setObj_map _ hb, Result.andThen, setBlock]
      rw [hE] at hE'
      injection hE' with _ e1
      rw [e1]
      obtain ⟨D', o1, t1⟩ := tab_block (w' := setBlock w B (.map es clock)) h' (by rw [heap_setBlock_same hb]; exact hb.symm)
      exact ⟨D', o1.mono (by omega), t1⟩
  · obtain ⟨es', clock', s1, s2⟩ := hS _ (.int .i64 v) (heap_setBlock_same hb _)
    obtain ⟨w', r, t, g⟩ := put_run h' hn hw hv
    have ew : w' = setBlock w B (.map es' clock') := by
      rw [r] at s2
      injection s2
    refine ⟨_, s1, tab_block t ?_, ⟨rfl, rfl, rfl, by simp [setBlock], fun j _ hj => ?_⟩⟩
    · rw [ew, heap_setBlock_same hb, heap_setBlock_same (heap_setBlock_same hb _)]
    · rw [heap_setBlock_other (heap_setBlock_same hb _) _ (fun e => hj (by rw [e])), heap_setBlock_other hb _ (fun e => hj (by rw [e]))]
end Go.Proofs.YtagmnociflkhcaaGreat.Entry
namespace Go.Proofs.YtagmnociflkhcaaGreat.ILotsFit
open Go.ChangeShapes Go.WideShapes Go.ChangeAt Go.RowKit BMem Bks IRead IHave ITrade ILists IBalsFit
open Lots (Says says_of NoOk qtyOf)
open Bals (T3 el3 val sumI upd ListOf)
open Tup5 (T5 el5)
open Tab (Tab Wf wf_no wf_amt)
def leftB (b : Bk) (k : Nat) (a i : Int) : Int := if kindOf b.ac a = 1 ∧ kindOf b.ic i = 2 then val (b.bs.take k) a i else 0
def leftL (b : Bk) (k : Nat) (a i : Int) : Int := leftB b b.bs.length a i - qtyOf (b.ls.take k) a i
theorem leftB_zero (b : Bk) (a i : Int) : leftB b 0 a i = 0 := by
  unfold leftB
  split <;> rfl
theorem leftB_yes {b : Bk} (hr : Bals.Right b.bs) {k : Nat} (hk : k < b.bs.length) (h : kindOf b.ac (el3 b.bs k).1 = 1 ∧ kindOf b.ic (el3 b.bs k).2.1 = 2) (a i : Int) : leftB b (k + 1) a i = upd (leftB b k) (el3 b.bs k).1 (el3 b.bs k).2.1 (el3 b.bs k).2.2 a i := by
  unfold leftB
  rw [Look.val_take hr hk]
  unfold upd
  by_cases e : a = (el3 b.bs k).1 ∧ i = (el3 b.bs k).2.1
  · rw [if_pos e, if_pos e, e.1, e.2, if_pos h]
  · rw [if_neg e, if_neg e]
theorem leftB_no {b : Bk} (hr : Bals.Right b.bs) {k : Nat} (hk : k < b.bs.length) (h : ¬ (kindOf b.ac (el3 b.bs k).1 = 1 ∧ kindOf b.ic (el3 b.bs k).2.1 = 2)) (a i : Int) : leftB b (k + 1) a i = leftB b k a i := by
  unfold leftB
  by_cases q : kindOf b.ac a = 1 ∧ kindOf b.ic i = 2
  · rw [if_pos q, if_pos q, Look.val_take hr hk]
    unfold upd
    rw [if_neg (fun e => h (by rw [← e.1, ← e.2]; exact q))]
  · rw [if_neg q, if_neg q]
theorem leftL_zero (b : Bk) (a i : Int) : leftL b 0 a i = leftB b b.bs.length a i := by
  unfold leftL
  simp [qtyOf]
theorem leftL_next {b : Bk} {k : Nat} (hk : k < b.ls.length) (a i : Int) : leftL b (k + 1) a i = upd (leftL b k) (el5 b.ls k).1 (el5 b.ls k).2.1 (leftL b k (el5 b.ls k).1 (el5 b.ls k).2.1 - (el5 b.ls k).2.2.2.1) a i := by
  unfold upd
  by_cases e : a = (el5 b.ls k).1 ∧ i = (el5 b.ls k).2.1
  · rw [if_pos e]
    unfold leftL
    rw [Lots.qtyOf_next hk, if_pos ⟨e.1.symm, e.2.symm⟩, e.1, e.2]
    omega
  · rw [if_neg e]
    unfold leftL
    rw [Lots.qtyOf_next hk, if_neg (fun r => e ⟨r.1.symm, r.2.symm⟩)]
    omega
theorem leftL_all (b : Bk) (a i : Int) : leftL b b.ls.length a i = leftT b a i := by
  unfold leftL leftT leftB
  rw [List.take_length, List.take_length]
theorem leftL_bd {b : Bk} (hl : Lists b) (k : Nat) (a i : Int) : -3000000000000000 ≤ leftL b k a i ∧ leftL b k a i ≤ 3000000000000000 := by
  obtain ⟨_, _, hb, hL, _⟩ := hl
  have h1 := (hb.val_in a i).1
  have h2 := Lots.take_le (ps := b.ls) (fun p hp => by
    obtain ⟨j, _, hj, rfl⟩ := Lots.mem_take (ps := b.ls) (k := b.ls.length) (p := p) (by rw [List.take_length]; exact hp)
    exact (hL.2.1 j hj).1) k a i
  have h3 := Lots.qty_pos (a := a) (i := i) (b.ls.take k) (fun p hp => by
    obtain ⟨j, _, hj, rfl⟩ := Lots.mem_take hp
    exact (hL.2.1 j hj).1)
  have h4 := hL.2.2 a i
  unfold leftL leftB
  unfold Bals.Amt at h1
  rw [List.take_length]
  split <;> omega
theorem list_none {f : Int → Int → Int} {qs : List T3} (h : ListOf f qs) : qs.length = 0 ↔ ∀ a i, f a i = 0 := by
  constructor
  · intro e a i
    rw [← h.2 a i, List.length_eq_zero_iff.1 e]
    rfl
  · intro e
    cases qs with
    | nil => rfl
    | cons p r =>
      have := (h.1.mem p).1 List.mem_cons_self
      rw [h.2, e] at this
      exact absurd this.2.symm this.1
theorem below_of_drew {w w' : World} (h : Below w.drew.heap.size w.drew w') : Below w.heap.size w w' := ⟨h.os, h.tape, h.output, h.size, h.block⟩
theorem St.grown {w W W' : World} {x : Bx} {M : Nat} (H : Rd w x) (h : St w W x) (k : W.grownBy W' (some M)) (hM : w.heap.size < M) : St w W' x := by
  have b : Below w.heap.size w W' := h.b.grown k (Nat.le_of_lt h.s) (fun j e => by cases e; omega)
  have ne : some w.heap.size ≠ some M := fun e => by cases e; omega
  exact ⟨H.below b, ⟨k.cell h.c.c0 ne, k.cell h.c.c1 ne, k.cell h.c.c2 ne, k.cell h.c.c3 ne, k.cell h.c.c4 ne, k.cell h.c.c5 ne⟩, b, Nat.lt_of_lt_of_le h.s k.size⟩
set_option maxRecDepth 100000 in
set_option maxHeartbeats 32000000 in
theorem iLotsFit (w : World) (x : Bx) (b : Bool) (h : Rd w x) (hl : Lists x.b) (hb : Says b (LotsFit x.b)) :
    Calls Tryz.prog 158 #[.agg #[.slice (some ⟨x.ga, 0, none⟩) x.b.ac.length x.ca, .slice (some ⟨x.gi, 0, none⟩) x.b.ic.length x.ci, .slice (some ⟨x.gb, 0, none⟩) x.b.bs.length x.cb, .slice (some ⟨x.gl, 0, none⟩) x.b.ls.length x.cl, .slice (some ⟨x.gt, 0, none⟩) x.b.ts.length x.ct, .int .i64 x.b.lot]] w fun e w' => e = .returned (.bool b) ∧ Below w.heap.size w w' := by
  have T := hide hb
  have L := hide hl
  have H := hide h
  have S0 := hide ((St.start h 40).step (one_more _ (.map #[] 0)))
  have nb := h.nb
  have nl := h.nl
  have n160 : x.b.bs.length ≤ 160 := hl.2.2.1.1
  have n120 : x.b.ls.length ≤ 120 := hl.2.2.2.1.1
  have TM := hide (Tab.tab_made (w.alloc (.cells #[.slice (some ⟨x.ga, 0, none⟩) x.b.ac.length x.ca, .slice (some ⟨x.gi, 0, none⟩) x.b.ic.length x.ci, .slice (some ⟨x.gb, 0, none⟩) x.b.bs.length x.cb, .slice (some ⟨x.gl, 0, none⟩) x.b.ls.length x.cl, .slice (some ⟨x.gt, 0, none⟩) x.b.ts.length x.ct, .int .i64 x.b.lot] 40)))
  have hmm := @run_makeMap Tryz.prog
  clear hb hl h
  go_enter Tryz.func158, Tryz.ntmps158
  go_wp2
  go_loopw [12] (fun i wr => ∃ (k : Nat), k ≤ x.b.bs.length ∧ i = .int .i64 k ∧ St w wr x ∧ Hid (Tab wr (w.heap.size + 1) k (leftB x.b k))) (fun i _ => x.b.bs.length - (intOf i).toNat)
  case atStart => exact ⟨0, by omega, rfl, unhide S0, hide ((by simpa using unhide TM : Tab _ (w.heap.size + 1) 0 (fun _ _ => 0)).congr (fun a i => (leftB_zero _ a i).symm))⟩
  case round =>
    obtain ⟨k, hk, rfl, hS, HT⟩ := hrel
    clear S0 TM
    by_cases t : k < x.b.bs.length
    · obtain ⟨d0, d1, d2⟩ := (hS.r.rb k t)
      obtain ⟨c0, c1, c2, c3, c4, c5⟩ := hS.c
      obtain ⟨r1, r2, r3, r4, _⟩ := (unhide L).2.2.1.2 k t
      have WF := hide (wf_no r1 r2)
      have WA := wf_amt r3
      have YES := hide (fun hh => leftB_yes (unhide L).2.2.1 t hh)
      have NO := hide (fun hh => leftB_no (unhide L).2.2.1 t hh)
      have wz := hS.s
      have S1 := hide (hS.step (one_more wr (.cells #[.int .i64 (el3 x.b.bs k).1, .int .i64 (el3 x.b.bs k).2.1, .int .i64 (el3 x.b.bs k).2.2] 146)))
      have T1 := hide ((unhide HT).below (one_more wr (.cells #[.int .i64 (el3 x.b.bs k).1, .int .i64 (el3 x.b.bs k).2.1, .int .i64 (el3 x.b.bs k).2.2] 146)))
      clear hS HT r1 r2 r3 r4
      generalize (el3 x.b.bs k).1 = y0 at *
      generalize (el3 x.b.bs k).2.1 = y1 at *
      generalize (el3 x.b.bs k).2.2 = y2 at *
      obtain ⟨b0, h0⟩ := says_of (kindOf x.b.ac y0 = 1)
      obtain ⟨b1, h1⟩ := says_of (kindOf x.b.ic y1 = 2)
      have H0 := hide h0
      have H1 := hide h1
      clear h0 h1
      go_wp2_with fail
      refine (iHolder _ x y0 b0 (unhide S1).r (unhide L).1 (unhide H0)).mono ?_
      rintro e w1 ⟨rfl, bb⟩
      have S2 := hide ((unhide S1).step bb)
      have T2 := hide ((unhide T1).below bb)
      have f0 : w1.cell? ⟨wr.heap.size, 0, none⟩ = some (.int .i64 y0) := (bb.cell (p := ⟨wr.heap.size, 0, none⟩) (by simp)).trans (by simp)
      have f1 : w1.cell? ⟨wr.heap.size, 1, none⟩ = some (.int .i64 y1) := (bb.cell (p := ⟨wr.heap.size, 1, none⟩) (by simp)).trans (by simp)
      have f2 : w1.cell? ⟨wr.heap.size, 2, none⟩ = some (.int .i64 y2) := (bb.cell (p := ⟨wr.heap.size, 2, none⟩) (by simp)).trans (by simp)
      have z1 : wr.heap.size < w1.heap.size := by have := bb.size; simp at this; omega
      clear bb c0 c1 c2 c3 c4 c5 d0 d1 d2 S1 T1
      obtain ⟨c0, c1, c2, c3, c4, c5⟩ := (unhide S2).c
      cases b0
      · have E := hide ((unhide NO) (fun hh => (unhide H0).no hh.1))
        clear YES NO
        go_wp2
        go_roundw
        case rel =>
          refine ⟨k + 1, by omega, by go_num, unhide S2, hide ?_⟩
          obtain ⟨D, o1, o2⟩ := (unhide T2).congr (fun a i => ((unhide E) a i).symm)
          exact ⟨D, o1.mono (by omega), o2⟩
        case measure => simp [intOf]; omega
      go_wp2_with fail
      refine (iPaper _ x y1 b1 (unhide S2).r (unhide L).2.1 (unhide H1)).mono ?_
      rintro e w2 ⟨rfl, bb⟩
      have S3 := hide ((unhide S2).step bb)
      have T3 := hide ((unhide T2).below bb)
      replace f0 : w2.cell? ⟨wr.heap.size, 0, none⟩ = some (.int .i64 y0) := (bb.cell (p := ⟨wr.heap.size, 0, none⟩) z1).trans f0
      replace f1 : w2.cell? ⟨wr.heap.size, 1, none⟩ = some (.int .i64 y1) := (bb.cell (p := ⟨wr.heap.size, 1, none⟩) z1).trans f1
      replace f2 : w2.cell? ⟨wr.heap.size, 2, none⟩ = some (.int .i64 y2) := (bb.cell (p := ⟨wr.heap.size, 2, none⟩) z1).trans f2
      clear bb c0 c1 c2 c3 c4 c5 S2 T2
      cases b1
      · have E := hide ((unhide NO) (fun hh => (unhide H1).no hh.2))
        clear YES NO
        go_wp2
        go_roundw
        case rel =>
          refine ⟨k + 1, by omega, by go_num, unhide S3, hide ?_⟩
          obtain ⟨D, o1, o2⟩ := (unhide T3).congr (fun a i => ((unhide E) a i).symm)
          exact ⟨D, o1.mono (by omega), o2⟩
        case measure => simp [intOf]; omega
      have E := hide ((unhide YES) ⟨(unhide H0).yes, (unhide H1).yes⟩)
      clear YES NO
      go_wp2_with (first | (at_mapUpdate; refine Tab.wp_put _ rfl _ _ _ 201 rfl Tryz.underlying201 (w.heap.size + 1) k _ rfl (unhide T3) (by omega) y0 y1 y2 rfl rfl (unhide WF) WA ?_; intro w3 t3 g3) | go_in)
      go_roundw
      case rel => exact ⟨k + 1, by omega, by go_num, St.grown (unhide H) (unhide S3) g3 (by omega), hide (t3.congr (fun a i => ((unhide E) a i).symm))⟩
      case measure => simp [intOf]; omega
    · obtain rfl : k = x.b.bs.length := by omega
      obtain ⟨c0, c1, c2, c3, c4, c5⟩ := hS.c
      have S1 := hide hS
      have T1 := hide ((unhide HT).congr (fun a i => (leftL_zero x.b a i).symm))
      clear hS HT
      go_wp2
      go_loopw [38] (fun i wr => ∃ (k : Nat), k ≤ x.b.ls.length ∧ i = .int .i64 k ∧ St w wr x ∧ Hid (Tab wr (w.heap.size + 1) (x.b.bs.length + k) (leftL x.b k)) ∧ Hid (∀ j, j < k → LotFit x.b (el5 x.b.ls j))) (fun i _ => x.b.ls.length - (intOf i).toNat)
      case atStart => exact ⟨0, by omega, rfl, unhide S1, T1, hide (fun i hi => absurd hi (by omega))⟩
      case round =>
        clear c0 c1 c2 c3 c4 c5 S1 T1 hk t
        obtain ⟨k, hk, rfl, hS, HT, HG⟩ := hrel
        by_cases t : k < x.b.ls.length
        · obtain ⟨d0, d1, d2, d3, d4⟩ := (hS.r.rl k t)
          obtain ⟨c0, c1, c2, c3, c4, c5⟩ := hS.c
          have BAD := hide (show ¬ LotFit x.b (el5 x.b.ls k) → b = false from fun hr => (unhide T).not (fun r => hr (r.1 k t)))
          have GOOD := hide (show LotFit x.b (el5 x.b.ls k) → ∀ i, i < k + 1 → LotFit x.b (el5 x.b.ls i) from fun hr i hi => by
            by_cases e : i = k
            · subst e; exact hr
            · exact (unhide HG) i (by omega))
          have FIT := hide (show LotFit x.b (el5 x.b.ls k) ↔ kindOf x.b.ac (el5 x.b.ls k).1 = 1 ∧ kindOf x.b.ic (el5 x.b.ls k).2.1 = 2 ∧ (el5 x.b.ls k).2.2.1 ≤ x.b.lot from Iff.rfl)
          have NX := hide (leftL_next t)
          obtain ⟨r1, r2, _, r4, _⟩ := ((unhide L).2.2.2.1.2.1 k t).1
          have WF := hide (wf_no r1 r2)
          have BD := leftL_bd (unhide L) k (el5 x.b.ls k).1 (el5 x.b.ls k).2.1
          have wz := hS.s
          have mz := (unhide HT).lt
          have S1 := hide (hS.step (one_more wr (.cells #[.int .i64 (el5 x.b.ls k).1, .int .i64 (el5 x.b.ls k).2.1, .int .i64 (el5 x.b.ls k).2.2.1, .int .i64 (el5 x.b.ls k).2.2.2.1, .int .i64 (el5 x.b.ls k).2.2.2.2] 148)))
          have T1 := hide ((unhide HT).below (one_more wr (.cells #[.int .i64 (el5 x.b.ls k).1, .int .i64 (el5 x.b.ls k).2.1, .int .i64 (el5 x.b.ls k).2.2.1, .int .i64 (el5 x.b.ls k).2.2.2.1, .int .i64 (el5 x.b.ls k).2.2.2.2] 148)))
          clear hS HT r1 r2
          generalize (el5 x.b.ls k).1 = y0 at *
          generalize (el5 x.b.ls k).2.1 = y1 at *
          generalize (el5 x.b.ls k).2.2.1 = y2 at *
          generalize (el5 x.b.ls k).2.2.2.1 = y3 at *
          generalize (el5 x.b.ls k).2.2.2.2 = y4 at *
          obtain ⟨b0, h0⟩ := says_of (kindOf x.b.ac y0 = 1)
          obtain ⟨b1, h1⟩ := says_of (kindOf x.b.ic y1 = 2)
          have H0 := hide h0
          have H1 := hide h1
          clear h0 h1
          go_wp2_with fail
          refine (iHolder _ x y0 b0 (unhide S1).r (unhide L).1 (unhide H0)).mono ?_
          rintro e w1 ⟨rfl, bb⟩
          have S2 := hide ((unhide S1).step bb)
          have T2 := hide ((unhide T1).below bb)
          have f0 : w1.cell? ⟨wr.heap.size, 0, none⟩ = some (.int .i64 y0) := (bb.cell (p := ⟨wr.heap.size, 0, none⟩) (by simp)).trans (by simp)
          have f1 : w1.cell? ⟨wr.heap.size, 1, none⟩ = some (.int .i64 y1) := (bb.cell (p := ⟨wr.heap.size, 1, none⟩) (by simp)).trans (by simp)
          have f2 : w1.cell? ⟨wr.heap.size, 2, none⟩ = some (.int .i64 y2) := (bb.cell (p := ⟨wr.heap.size, 2, none⟩) (by simp)).trans (by simp)
          have f3 : w1.cell? ⟨wr.heap.size, 3, none⟩ = some (.int .i64 y3) := (bb.cell (p := ⟨wr.heap.size, 3, none⟩) (by simp)).trans (by simp)
          have f4 : w1.cell? ⟨wr.heap.size, 4, none⟩ = some (.int .i64 y4) := (bb.cell (p := ⟨wr.heap.size, 4, none⟩) (by simp)).trans (by simp)
          have z1 : wr.heap.size < w1.heap.size := by have := bb.size; simp at this; omega
          clear bb c0 c1 c2 c3 c4 c5 d0 d1 d2 d3 d4 S1 T1
          obtain ⟨c0, c1, c2, c3, c4, c5⟩ := (unhide S2).c
          cases b0
          · have F := hide ((unhide BAD) (fun hh => (unhide H0).no ((unhide FIT).1 hh).1))
            clear BAD GOOD FIT T
            go_wp2
            go_ret
            exact ⟨by rw [unhide F]; rfl, (unhide S2).b⟩
          go_wp2_with fail
          refine (iPaper _ x y1 b1 (unhide S2).r (unhide L).2.1 (unhide H1)).mono ?_
          rintro e w2 ⟨rfl, bb⟩
          have S3 := hide ((unhide S2).step bb)
          have T3 := hide ((unhide T2).below bb)
          replace f0 : w2.cell? ⟨wr.heap.size, 0, none⟩ = some (.int .i64 y0) := (bb.cell (p := ⟨wr.heap.size, 0, none⟩) z1).trans f0
          replace f1 : w2.cell? ⟨wr.heap.size, 1, none⟩ = some (.int .i64 y1) := (bb.cell (p := ⟨wr.heap.size, 1, none⟩) z1).trans f1
          replace f2 : w2.cell? ⟨wr.heap.size, 2, none⟩ = some (.int .i64 y2) := (bb.cell (p := ⟨wr.heap.size, 2, none⟩) z1).trans f2
          replace f3 : w2.cell? ⟨wr.heap.size, 3, none⟩ = some (.int .i64 y3) := (bb.cell (p := ⟨wr.heap.size, 3, none⟩) z1).trans f3
          replace f4 : w2.cell? ⟨wr.heap.size, 4, none⟩ = some (.int .i64 y4) := (bb.cell (p := ⟨wr.heap.size, 4, none⟩) z1).trans f4
          have z2 : wr.heap.size < w2.heap.size := Nat.lt_of_lt_of_le z1 bb.size
          clear bb c0 c1 c2 c3 c4 c5 S2 T2
          have c5 := (unhide S3).c.c5
          cases b1
          · have F := hide ((unhide BAD) (fun hh => (unhide H1).no ((unhide FIT).1 hh).2.1))
            clear BAD GOOD FIT T
            go_wp2
            go_ret
            exact ⟨by rw [unhide F]; rfl, (unhide S3).b⟩
          by_cases q : y2 > x.b.lot
          · have F := hide ((unhide BAD) (fun hh => by have := ((unhide FIT).1 hh).2.2; omega))
            clear BAD GOOD FIT T
            go_wp2
            go_ret
            exact ⟨by rw [unhide F]; rfl, (unhide S3).b⟩
          have G := hide ((unhide GOOD) ((unhide FIT).2 ⟨(unhide H0).yes, (unhide H1).yes, by omega⟩))
          have hq : decide (y2 > x.b.lot) = false := decide_eq_false q
          clear BAD GOOD FIT q
          go_wp2_with fail
          clear c5
          generalize hfv : leftL x.b k y0 y1 = fv at *
          have FV := hide hfv
          have wrap1 : IntKind.i64.wrap (fv - y3) = fv - y3 := by rw [IntKind.wrap_i64]; omega
          have WV : (Lit.int .i64 (fv - y3)).wf = true := WalkArith.wf_i64 (by omega)
          clear hfv
          have M1 := hide (fun (W : World) (bW : Below w2.heap.size w2 W) => Entry.entry_run ((unhide T3).below bW) (by omega) (unhide WF))
          go_region_held3 (fun w' => w'.cell? ⟨wr.heap.size, 0, none⟩ = some (.int .i64 y0) ∧ w'.cell? ⟨wr.heap.size, 1, none⟩ = some (.int .i64 y1) ∧ w'.cell? ⟨wr.heap.size, 2, none⟩ = some (.int .i64 y2) ∧ w'.cell? ⟨wr.heap.size, 3, none⟩ = some (.int .i64 y3) ∧ w'.cell? ⟨wr.heap.size, 4, none⟩ = some (.int .i64 y4)) (go_keep)
            (first | (go_at_call 170; refine (CmpL.keyL y0 y1 y2 y3 y4 w2.drew).mono ?_; rintro e w3 ⟨rfl, bb⟩; have bW : Below w2.heap.size w2 w3 := below_of_drew bb; have t3 := (unhide T3).below bW; have l3 := Post.look_run t3 (unhide WF); rw [unhide FV] at l3; obtain ⟨v0, st, w4, E4, t4, g4, ST⟩ := (unhide M1) w3 bW; have l4 := Post.look_run t4 (unhide WF); rw [unhide FV] at l4; obtain ⟨w5, E5, t5, g5⟩ := ST (fv - y3) WV; replace E5 : (Instr.entryStore 201 (.map (some (w.heap.size + 1))) (.int .i64 (st : Int)) (.int .i64 (fv - y3))).run Tryz.prog w4 = .ok () w5 := E5; have ne : some wr.heap.size ≠ some (w.heap.size + 1) := (fun e => by injection e; omega); have p0 : w3.cell? ⟨wr.heap.size, 0, none⟩ = some (.int .i64 y0) := (bW.cell (p := ⟨wr.heap.size, 0, none⟩) z2).trans f0; have q0 := g4.cell p0 ne; have o0 := g5.cell p0 ne; have p1 : w3.cell? ⟨wr.heap.size, 1, none⟩ = some (.int .i64 y1) := (bW.cell (p := ⟨wr.heap.size, 1, none⟩) z2).trans f1; have q1 := g4.cell p1 ne; have o1 := g5.cell p1 ne; have p2 : w3.cell? ⟨wr.heap.size, 2, none⟩ = some (.int .i64 y2) := (bW.cell (p := ⟨wr.heap.size, 2, none⟩) z2).trans f2; have q2 := g4.cell p2 ne; have o2 := g5.cell p2 ne; have p3 : w3.cell? ⟨wr.heap.size, 3, none⟩ = some (.int .i64 y3) := (bW.cell (p := ⟨wr.heap.size, 3, none⟩) z2).trans f3; have q3 := g4.cell p3 ne; have o3 := g5.cell p3 ne; have p4 : w3.cell? ⟨wr.heap.size, 4, none⟩ = some (.int .i64 y4) := (bW.cell (p := ⟨wr.heap.size, 4, none⟩) z2).trans f4; have q4 := g4.cell p4 ne; have o4 := g5.cell p4 ne; clear bb ST))
          all_goals
            have S4 := hide (St.grown (unhide H) ((unhide S3).step bW) g5 (by omega))
            have T5 := hide (t5.congr (fun a i => (by rw [unhide NX] : leftL x.b (k + 1) a i = upd (leftL x.b k) y0 y1 (fv - y3) a i).symm))
            clear t3 l3 E4 t4 g4 l4 t5 g5 E5 p0 p1 p2 p3 p4 q0 q1 q2 q3 q4 o0 o1 o2 o3 o4 f0 f1 f2 f3 f4 S3 T3 M1 bW NX
            go_wp2
            go_roundw
            case rel => exact ⟨k + 1, by omega, by go_num, unhide S4, T5, G⟩
            case measure => simp [intOf]; omega
        · obtain rfl : k = x.b.ls.length := by omega
          have ALL := hide (show ∀ j, j < x.b.ls.length → LotFit x.b (el5 x.b.ls j) from unhide HG)
          have S1 := hide hS
          have T1 := hide ((unhide HT).congr (fun a i => leftL_all x.b a i))
          clear hS HT HG
          go_wp2_with fail
          refine (Out.iBals _ (w.heap.size + 1) _ _ (by omega) (unhide T1)).mono ?_
          rintro e w1 ⟨qs, g, c, hq, hn, rfl, ho, bb⟩
          have B1 := hide ((unhide S1).b.trans (bb.mono (Nat.le_of_lt (unhide S1).s)))
          have hd : ((qs.length : Int) == 0) = b := by
            have hz := (list_none hq).trans (lots_impl (unhide ALL))
            by_cases z : qs.length = 0
            · rw [(unhide T).of (hz.1 z), z]; rfl
            · rw [(unhide T).not (fun r => z (hz.2 r))]
              simp only [beq_eq_false_iff_ne]
              omega
          clear bb ho hq hn
          go_wp2
          go_ret
          exact ⟨rfl, unhide B1⟩
end Go.Proofs.YtagmnociflkhcaaGreat.ILotsFit
namespace Go.Proofs.YtagmnociflkhcaaGreat.SLots
open Go.ChangeShapes Go.WideShapes Go.ChangeAt Go.RowKit BMem Bks IRead IHave ITrade ILists IBalsFit SBals
open Lots (Says says_of NoOk ownL restL)
open Bals (T3 el3 val sumI)
open Tup5 (T5 el5)
open Takes (sumQ)
open ILotsFit (below_of_drew)
def Even (b : Bk) (j k : Nat) : Prop := (Chart.el b.ac j).2 = 1 → (Chart.el b.ic k).2 = 2 → sumQ (ownL b.ls (Chart.el b.ac j).1 (Chart.el b.ic k).1) = val b.bs (Chart.el b.ac j).1 (Chart.el b.ic k).1
set_option maxRecDepth 100000 in
set_option maxHeartbeats 32000000 in
theorem sLots (w : World) (x : Bx) (b : Bool) (h : Rd w x) (hl : Lists x.b) (hb : Says b (LotsFit x.b)) :
    Calls Tryz.prog 101 #[.agg #[.slice (some ⟨x.ga, 0, none⟩) x.b.ac.length x.ca, .slice (some ⟨x.gi, 0, none⟩) x.b.ic.length x.ci, .slice (some ⟨x.gb, 0, none⟩) x.b.bs.length x.cb, .slice (some ⟨x.gl, 0, none⟩) x.b.ls.length x.cl, .slice (some ⟨x.gt, 0, none⟩) x.b.ts.length x.ct, .int .i64 x.b.lot]] w fun e w' => e = .returned (.bool b) ∧ Below w.heap.size w w' := by
  have T := hide hb
  have L := hide hl
  have S0 := hide (St.start h 40)
  have nl := h.nl
  have na := h.na
  have ni := h.ni
  have nb := h.nb
  have n120 : x.b.ls.length ≤ 120 := hl.2.2.2.1.1
  clear hb hl h
  go_enter Tryz.func101, Tryz.ntmps101
  go_wp2
  go_loopw [3] (fun i wr => ∃ (k : Nat), k ≤ x.b.ls.length ∧ i = .int .i64 k ∧ St w wr x ∧ Hid (∀ j, j < k → LotFit x.b (el5 x.b.ls j))) (fun i _ => x.b.ls.length - (intOf i).toNat)
  case atStart => exact ⟨0, by omega, rfl, unhide S0, hide (fun i hi => absurd hi (by omega))⟩
  case round =>
    obtain ⟨k, hk, rfl, hS, HG⟩ := hrel
    clear S0
    by_cases t : k < x.b.ls.length
    · obtain ⟨d0, d1, d2, d3, d4⟩ := (hS.r.rl k t)
      obtain ⟨c0, c1, c2, c3, c4, c5⟩ := hS.c
      have BAD := hide (show ¬ LotFit x.b (el5 x.b.ls k) → b = false from fun hr => (unhide T).not (fun r => hr (r.1 k t)))
      have GOOD := hide (show LotFit x.b (el5 x.b.ls k) → ∀ i, i < k + 1 → LotFit x.b (el5 x.b.ls i) from fun hr i hi => by
        by_cases e : i = k
        · subst e; exact hr
        · exact (unhide HG) i (by omega))
      have FIT := hide (show LotFit x.b (el5 x.b.ls k) ↔ kindOf x.b.ac (el5 x.b.ls k).1 = 1 ∧ kindOf x.b.ic (el5 x.b.ls k).2.1 = 2 ∧ (el5 x.b.ls k).2.2.1 ≤ x.b.lot from Iff.rfl)
      have wz := hS.s
      have S1 := hide (hS.step (one_more wr (.cells #[.int .i64 (el5 x.b.ls k).1, .int .i64 (el5 x.b.ls k).2.1, .int .i64 (el5 x.b.ls k).2.2.1, .int .i64 (el5 x.b.ls k).2.2.2.1, .int .i64 (el5 x.b.ls k).2.2.2.2] 148)))
      clear hS
      generalize LotFit x.b (el5 x.b.ls k) = FP at *
      generalize (el5 x.b.ls k).1 = y0 at *
      generalize (el5 x.b.ls k).2.1 = y1 at *
      generalize (el5 x.b.ls k).2.2.1 = y2 at *
      generalize (el5 x.b.ls k).2.2.2.1 = y3 at *
      generalize (el5 x.b.ls k).2.2.2.2 = y4 at *
      generalize hK : kindOf x.b.ac y0 = K at *
      generalize hJ : kindOf x.b.ic y1 = J at *
      have HK := hide hK
      have HJ := hide hJ
      clear hK hJ
      go_wp2_with fail
      refine (sKindA _ x y0 K (unhide S1).r (unhide L).1 (unhide HK)).mono ?_
      rintro e w1 ⟨rfl, bb⟩
      have S2 := hide ((unhide S1).step bb)
      have f1 : w1.cell? ⟨wr.heap.size, 1, none⟩ = some (.int .i64 y1) := (bb.cell (p := ⟨wr.heap.size, 1, none⟩) (by simp)).trans (by simp)
      have f2 : w1.cell? ⟨wr.heap.size, 2, none⟩ = some (.int .i64 y2) := (bb.cell (p := ⟨wr.heap.size, 2, none⟩) (by simp)).trans (by simp)
      have z1 : wr.heap.size < w1.heap.size := by have := bb.size; simp at this; omega
      clear bb c0 c1 c2 c3 c4 c5 d0 d1 d2 d3 d4
      obtain ⟨c0, c1, c2, c3, c4, c5⟩ := (unhide S2).c
      by_cases q0 : K = 1
      · have hq0 : (K != 1) = false := by simp [q0]
        have Q0 := hide q0
        clear q0
        go_wp2_with fail
        refine (sKindI _ x y1 J (unhide S2).r (unhide L).2.1 (unhide HJ)).mono ?_
        rintro e w2 ⟨rfl, bb⟩
        have S3 := hide ((unhide S2).step bb)
        replace f2 : w2.cell? ⟨wr.heap.size, 2, none⟩ = some (.int .i64 y2) := (bb.cell (p := ⟨wr.heap.size, 2, none⟩) z1).trans f2
        clear bb c0 c1 c2 c3 c4 c5
        obtain ⟨c0, c1, c2, c3, c4, c5⟩ := (unhide S3).c
        by_cases q1 : J = 2
        · have hq1 : (J != 2) = false := by simp [q1]
          by_cases q2 : y2 > x.b.lot
          · have F := hide ((unhide BAD) (fun hh => by have := ((unhide FIT).1 hh).2.2; omega))
            clear BAD GOOD FIT T q1
            go_wp2
            go_ret
            exact ⟨by rw [unhide F]; rfl, (unhide S3).b⟩
          · have G := hide ((unhide GOOD) ((unhide FIT).2 ⟨unhide Q0, q1, by omega⟩))
            have hq2 : decide (y2 > x.b.lot) = false := decide_eq_false q2
            clear BAD GOOD FIT q1 q2
            go_wp2
            go_roundw
            case rel => exact ⟨k + 1, by omega, by go_num, unhide S3, G⟩
            case measure => simp [intOf]; omega
        · have F := hide ((unhide BAD) (fun hh => q1 ((unhide FIT).1 hh).2.1))
          have hq1 : (J != 2) = true := by simp [q1]
          clear BAD GOOD FIT T q1
          go_wp2
          go_ret
          exact ⟨by rw [unhide F]; rfl, (unhide S3).b⟩
      · have F := hide ((unhide BAD) (fun hh => q0 ((unhide FIT).1 hh).1))
        have hq : (K != 1) = true := by simp [q0]
        clear BAD GOOD FIT T q0
        go_wp2
        go_ret
        exact ⟨by rw [unhide F]; rfl, (unhide S2).b⟩
    · have ALL := hide (show ∀ j, j < x.b.ls.length → LotFit x.b (el5 x.b.ls j) from fun j hj => (unhide HG) j (by omega))
      have IFF := hide (lots_spec (unhide L).1 (unhide L).2.1 (unhide ALL))
      obtain ⟨c0, c1, c2, c3, c4, c5⟩ := hS.c
      have S1 := hide hS
      clear hS HG
      go_wp2
      go_loopw [5] (fun i wr => ∃ (j : Nat), j ≤ x.b.ac.length ∧ i = .int .i64 j ∧ St w wr x ∧ Hid (∀ j', j' < j → ∀ k, k < x.b.ic.length → Even x.b j' k)) (fun i _ => x.b.ac.length - (intOf i).toNat)
      case atStart => exact ⟨0, by omega, rfl, unhide S1, hide (fun i hi => absurd hi (by omega))⟩
      case round =>
        clear c0 c1 c2 c3 c4 c5 S1 hk t
        obtain ⟨j, hj, rfl, hS, HG⟩ := hrel
        obtain ⟨c0, c1, c2, c3, c4, c5⟩ := hS.c
        have S1 := hide hS
        clear hS
        by_cases t : j < x.b.ac.length
        · go_wp2
          go_loopw [6] (fun i wr => ∃ (k : Nat), k ≤ x.b.ic.length ∧ i = .int .i64 k ∧ St w wr x ∧ Hid (∀ k', k' < k → Even x.b j k')) (fun i _ => x.b.ic.length - (intOf i).toNat)
          case atStart => exact ⟨0, by omega, rfl, unhide S1, hide (fun i hi => absurd hi (by omega))⟩
          case round =>
            clear c0 c1 c2 c3 c4 c5 S1
            obtain ⟨k, hk, rfl, hS, HK⟩ := hrel
            obtain ⟨c0, c1, c2, c3, c4, c5⟩ := hS.c
            by_cases u : k < x.b.ic.length
            · obtain ⟨a0, a1⟩ := hS.r.ra j t
              obtain ⟨i0, i1⟩ := hS.r.ri k u
              have S2 := hide hS
              have wz := hS.s
              clear hS
              have BAD := hide (show ¬ Even x.b j k → b = false from fun hr => (unhide T).not (fun r => hr (((unhide IFF).1 r) j t k u)))
              have GOOD := hide (show Even x.b j k → ∀ i, i < k + 1 → Even x.b j i from fun hr i hi => by
                by_cases e : i = k
                · subst e; exact hr
                · exact (unhide HK) i (by omega))
              have DEF := hide (show Even x.b j k ↔ ((Chart.el x.b.ac j).2 = 1 → (Chart.el x.b.ic k).2 = 2 → sumQ (ownL x.b.ls (Chart.el x.b.ac j).1 (Chart.el x.b.ic k).1) = val x.b.bs (Chart.el x.b.ac j).1 (Chart.el x.b.ic k).1) from Iff.rfl)
              generalize Even x.b j k = EP at *
              generalize (Chart.el x.b.ac j).1 = y0 at *
              generalize (Chart.el x.b.ac j).2 = y1 at *
              generalize (Chart.el x.b.ic k).1 = z0 at *
              generalize (Chart.el x.b.ic k).2 = z1 at *
              by_cases q0 : y1 = 1
              · by_cases q1 : z1 = 2
                · have DEF2 := hide (show EP ↔ sumQ (ownL x.b.ls y0 z0) = val x.b.bs y0 z0 from (unhide DEF).trans ⟨fun hh => hh q0 q1, fun hh _ _ => hh⟩)
                  have hq0 : (y1 == 1) = true := by simp [q0]
                  have hq1 : (z1 == 2) = true := by simp [q1]
                  have kj : (0 : Int) ≤ (j : Int) := by omega
                  have kj2 : (j : Int) < (x.b.ac.length : Int) := by omega
                  have kk : (0 : Int) ≤ (k : Int) := by omega
                  have kk2 : (k : Int) < (x.b.ic.length : Int) := by omega
                  clear DEF q0 q1
                  go_wp2_with fail
                  have ga := (unhide S2).r.la
                  have gi := (unhide S2).r.li
                  go_region_held3 (fun w' => w'.cell? ⟨w.heap.size, 0, none⟩ = some (.slice (some ⟨x.ga, 0, none⟩) x.b.ac.length x.ca) ∧ w'.cell? ⟨w.heap.size, 1, none⟩ = some (.slice (some ⟨x.gi, 0, none⟩) x.b.ic.length x.ci) ∧ w'.cell? ⟨w.heap.size, 2, none⟩ = some (.slice (some ⟨x.gb, 0, none⟩) x.b.bs.length x.cb) ∧ w'.cell? ⟨w.heap.size, 3, none⟩ = some (.slice (some ⟨x.gl, 0, none⟩) x.b.ls.length x.cl) ∧ w'.cell? ⟨x.ga, j * 2, none⟩ = some (.int .i64 y0) ∧ w'.cell? ⟨x.gi, k * 2, none⟩ = some (.int .i64 z0)) (go_keep)
                    (first | (go_at_call 128; refine (SSplit.sSplit wr.drew x.gl _ x.cl x.b.ls y0 z0 rfl (by omega) (unhide S2).r.ll (unhide S2).r.rl).mono ?_; rintro e w3 ⟨g1, k1, g2, k2, rfl, o1, o2, ne, bb⟩; have bW : Below wr.heap.size wr w3 := below_of_drew bb; have pc0 : w3.cell? ⟨w.heap.size, 0, none⟩ = some (.slice (some ⟨x.ga, 0, none⟩) x.b.ac.length x.ca) := (bW.cell (p := ⟨w.heap.size, 0, none⟩) wz).trans c0; have pc1 : w3.cell? ⟨w.heap.size, 1, none⟩ = some (.slice (some ⟨x.gi, 0, none⟩) x.b.ic.length x.ci) := (bW.cell (p := ⟨w.heap.size, 1, none⟩) wz).trans c1; have pc2 : w3.cell? ⟨w.heap.size, 2, none⟩ = some (.slice (some ⟨x.gb, 0, none⟩) x.b.bs.length x.cb) := (bW.cell (p := ⟨w.heap.size, 2, none⟩) wz).trans c2; have pc3 : w3.cell? ⟨w.heap.size, 3, none⟩ = some (.slice (some ⟨x.gl, 0, none⟩) x.b.ls.length x.cl) := (bW.cell (p := ⟨w.heap.size, 3, none⟩) wz).trans c3; have pa0 : w3.cell? ⟨x.ga, j * 2, none⟩ = some (.int .i64 y0) := (bW.cell (p := ⟨x.ga, j * 2, none⟩) ga).trans a0; have pi0 : w3.cell? ⟨x.gi, k * 2, none⟩ = some (.int .i64 z0) := (bW.cell (p := ⟨x.gi, k * 2, none⟩) gi).trans i0))
                  have S3 := hide ((unhide S2).step bW)
                  have O1 := hide o1
                  have l1 := o1.lt.2
                  clear c0 c1 c2 c3 c4 c5 a0 a1 i0 i1 bb bW o1 o2 ne
                  obtain ⟨ps1, ps2, ps3⟩ := Takes.own_pos (unhide L).2.2.2.1 y0 z0
                  have P1 := hide ps1
                  have n1 : (ownL x.b.ls y0 z0).length ≤ 1048576 := Nat.le_trans (List.length_filter_le _ _) nl
                  have w3z := (unhide S3).s
                  have ga3 := (unhide S3).r.la
                  have gi3 := (unhide S3).r.li
                  clear ps1 ps3
                  generalize hQ : sumQ (ownL x.b.ls y0 z0) = QV at *
                  generalize hV : val x.b.bs y0 z0 = VV at *
                  have HQ := hide hQ
                  have HV := hide hV
                  clear hQ hV
                  go_wp2_with fail
                  go_region_held3 (fun w' => w'.cell? ⟨w.heap.size, 0, none⟩ = some (.slice (some ⟨x.ga, 0, none⟩) x.b.ac.length x.ca) ∧ w'.cell? ⟨w.heap.size, 1, none⟩ = some (.slice (some ⟨x.gi, 0, none⟩) x.b.ic.length x.ci) ∧ w'.cell? ⟨w.heap.size, 2, none⟩ = some (.slice (some ⟨x.gb, 0, none⟩) x.b.bs.length x.cb) ∧ w'.cell? ⟨w.heap.size, 3, none⟩ = some (.slice (some ⟨x.gl, 0, none⟩) x.b.ls.length x.cl) ∧ w'.cell? ⟨x.ga, j * 2, none⟩ = some (.int .i64 y0) ∧ w'.cell? ⟨x.gi, k * 2, none⟩ = some (.int .i64 z0)) (go_keep)
                    (first | (go_at_call 129; refine (SSplit.sQty w3.drew g1 _ k1 (ownL x.b.ls y0 z0) rfl n1 (unhide O1).at (unhide P1) (by rw [unhide HQ]; exact ps2)).mono ?_; rintro e w4 ⟨he, bb⟩; rw [unhide HQ] at he; subst he; have bW : Below w3.heap.size w3 w4 := below_of_drew bb; have qc0 : w4.cell? ⟨w.heap.size, 0, none⟩ = some (.slice (some ⟨x.ga, 0, none⟩) x.b.ac.length x.ca) := (bW.cell (p := ⟨w.heap.size, 0, none⟩) w3z).trans pc0; have qc1 : w4.cell? ⟨w.heap.size, 1, none⟩ = some (.slice (some ⟨x.gi, 0, none⟩) x.b.ic.length x.ci) := (bW.cell (p := ⟨w.heap.size, 1, none⟩) w3z).trans pc1; have qc2 : w4.cell? ⟨w.heap.size, 2, none⟩ = some (.slice (some ⟨x.gb, 0, none⟩) x.b.bs.length x.cb) := (bW.cell (p := ⟨w.heap.size, 2, none⟩) w3z).trans pc2; have qc3 : w4.cell? ⟨w.heap.size, 3, none⟩ = some (.slice (some ⟨x.gl, 0, none⟩) x.b.ls.length x.cl) := (bW.cell (p := ⟨w.heap.size, 3, none⟩) w3z).trans pc3; have qa0 : w4.cell? ⟨x.ga, j * 2, none⟩ = some (.int .i64 y0) := (bW.cell (p := ⟨x.ga, j * 2, none⟩) ga3).trans pa0; have qi0 : w4.cell? ⟨x.gi, k * 2, none⟩ = some (.int .i64 z0) := (bW.cell (p := ⟨x.gi, k * 2, none⟩) gi3).trans pi0) | (go_at_call 130; refine (Look.sOf w4 x.gb _ x.cb x.b.bs y0 z0 rfl nb ((unhide S3).r.below bW).rb).mono ?_; rintro e w5 ⟨he, rfl⟩; rw [unhide HV] at he; subst he))
                  have S4 := hide ((unhide S3).step bW)
                  clear bb bW qc0 qc1 qc2 qc3 qa0 qi0 pc0 pc1 pc2 pc3 pa0 pi0
                  by_cases q2 : QV = VV
                  · have G := hide ((unhide GOOD) ((unhide DEF2).2 q2))
                    have hq2 : (QV != VV) = false := by simp [q2]
                    clear BAD GOOD DEF2 q2
                    go_wp2
                    go_roundw
                    case rel => exact ⟨k + 1, by omega, by go_num, unhide S4, G⟩
                    case measure => simp [intOf]; omega
                  · have F := hide ((unhide BAD) (fun hh => q2 ((unhide DEF2).1 hh)))
                    have hq2 : (QV != VV) = true := by simp [q2]
                    clear BAD GOOD DEF2 T q2
                    go_wp2
                    go_ret
                    exact ⟨by rw [unhide F]; rfl, (unhide S4).b⟩
                · have G := hide ((unhide GOOD) ((unhide DEF).2 (fun _ e => absurd e q1)))
                  have hq0 : (y1 == 1) = true := by simp [q0]
                  have hq1 : (z1 == 2) = false := by simp [q1]
                  clear BAD GOOD DEF q0 q1
                  go_wp2
                  go_roundw
                  case rel => exact ⟨k + 1, by omega, by go_num, unhide S2, G⟩
                  case measure => simp [intOf]; omega
              · have G := hide ((unhide GOOD) ((unhide DEF).2 (fun e _ => absurd e q0)))
                have hq0 : (y1 == 1) = false := by simp [q0]
                clear BAD GOOD DEF q0
                go_wp2
                go_roundw
                case rel => exact ⟨k + 1, by omega, by go_num, unhide S2, G⟩
                case measure => simp [intOf]; omega
            · have G := hide (show ∀ j', j' < j + 1 → ∀ k, k < x.b.ic.length → Even x.b j' k from fun j' hj' k' hk' => by
                by_cases e : j' = j
                · subst e; exact (unhide HK) k' (by omega)
                · exact (unhide HG) j' (by omega) k' hk')
              have S2 := hide hS
              clear hS
              go_wp2
              go_roundw
              case rel => exact ⟨j + 1, by omega, by go_num, unhide S2, G⟩
              case measure => simp [intOf]; omega
        · have F := hide ((unhide T).of ((unhide IFF).2 (fun j' hj' k hk => (unhide HG) j' (by omega) k hk)))
          go_wp2
          go_ret
          exact ⟨by rw [unhide F]; rfl, (unhide S1).b⟩
end Go.Proofs.YtagmnociflkhcaaGreat.SLots
namespace Go.Proofs.YtagmnociflkhcaaGreat.SBooksOk
open Go.ChangeShapes Go.WideShapes Go.ChangeAt Go.RowKit BMem Bks IRead IHave ITrade ILists IBalsFit SBals SLots
open Lots (Says says_of NoOk)
open Tup8 (T8 el8)
theorem sOksA (w : World) (x : Bx) (ok : Bool) (h : Rd w x) (hok : Chart.Says ok 20 4 x.b.ac) : Calls Tryz.prog 95 #[.slice (some ⟨x.ga, 0, none⟩) x.b.ac.length x.ca] w fun e w' => e = .returned (.bool ok) ∧ Below w.heap.size w w' :=
  (AccountSOk.sOk w x.ga _ x.ca x.b.ac ok rfl h.na h.ra hok).mono fun e w' ⟨h1, q, h2⟩ => ⟨h1, by rw [h2]; exact below_drewN (Below.refl _ _) q⟩
theorem sOksI (w : World) (x : Bx) (ok : Bool) (h : Rd w x) (hok : Chart.Says ok 8 2 x.b.ic) : Calls Tryz.prog 96 #[.slice (some ⟨x.gi, 0, none⟩) x.b.ic.length x.ci] w fun e w' => e = .returned (.bool ok) ∧ Below w.heap.size w w' :=
  (InstrSOk.sOk w x.gi _ x.ci x.b.ic ok rfl h.ni h.ri hok).mono fun e w' ⟨h1, q, h2⟩ => ⟨h1, by rw [h2]; exact below_drewN (Below.refl _ _) q⟩
set_option maxRecDepth 100000 in
set_option maxHeartbeats 32000000 in
theorem sBooksOk (w : World) (x : Bx) (b : Bool) (h : Rd w x) (hb : Says b (Ok x.b)) :
    Calls Tryz.prog 56 #[.agg #[.slice (some ⟨x.ga, 0, none⟩) x.b.ac.length x.ca, .slice (some ⟨x.gi, 0, none⟩) x.b.ic.length x.ci, .slice (some ⟨x.gb, 0, none⟩) x.b.bs.length x.cb, .slice (some ⟨x.gl, 0, none⟩) x.b.ls.length x.cl, .slice (some ⟨x.gt, 0, none⟩) x.b.ts.length x.ct, .int .i64 x.b.lot]] w fun e w' => e = .returned (.bool b) ∧ Below w.heap.size w w' := by
  have T := hide hb
  have S0 := hide (St.start h 40)
  have nb := h.nb
  have nl := h.nl
  have nt := h.nt
  obtain ⟨b0, h0⟩ := Chart.says_of 20 4 x.b.ac
  obtain ⟨b1, h1⟩ := Chart.says_of 8 2 x.b.ic
  obtain ⟨b2, h2⟩ := Bals.says_of (Bals.Right x.b.bs)
  obtain ⟨b3, h3⟩ := says_of (Lots.Right x.b.ls)
  obtain ⟨b4, h4⟩ := says_of (TRight x.b.ts)
  obtain ⟨b5, h5⟩ := says_of (0 ≤ x.b.lot ∧ x.b.lot ≤ 1000000000)
  obtain ⟨b6, h6⟩ := says_of (BalsFit x.b)
  obtain ⟨b7, h7⟩ := says_of (LotsFit x.b)
  have H0 := hide h0
  have H1 := hide h1
  have H2 := hide h2
  have H3 := hide h3
  have H4 := hide h4
  have H5 := hide h5
  have H6 := hide h6
  have H7 := hide h7
  clear hb h h0 h1 h2 h3 h4 h5 h6 h7
  go_enter Tryz.func56, Tryz.ntmps56
  go_wp2_with fail
  refine (sOksA _ x b0 (unhide S0).r (unhide H0)).mono ?_
  rintro e w1 ⟨rfl, bb⟩
  have S1 := hide ((unhide S0).step bb)
  clear bb
  obtain ⟨c0, c1, c2, c3, c4, c5⟩ := (unhide S1).c
  cases b0
  · have F := hide ((unhide T).not (fun hh => (unhide H0).no hh.1.1))
    clear T
    go_wp2
    go_ret
    exact ⟨by rw [unhide F]; rfl, (unhide S1).b⟩
  go_wp2_with fail
  refine (sOksI _ x b1 (unhide S1).r (unhide H1)).mono ?_
  rintro e w2 ⟨rfl, bb⟩
  have S2 := hide ((unhide S1).step bb)
  clear bb
  clear c0 c1 c2 c3 c4 c5
  obtain ⟨c0, c1, c2, c3, c4, c5⟩ := (unhide S2).c
  cases b1
  · have F := hide ((unhide T).not (fun hh => (unhide H1).no hh.1.2.1))
    clear T
    go_wp2
    go_ret
    exact ⟨by rw [unhide F]; rfl, (unhide S2).b⟩
  go_wp2_with fail
  refine (SOk3.sOk _ x.gb _ x.cb x.b.bs b2 rfl nb (unhide S2).r.lb (unhide S2).r.rb (unhide H2)).mono ?_
  rintro e w3 ⟨rfl, bb⟩
  have S3 := hide ((unhide S2).step bb)
  clear bb
  clear c0 c1 c2 c3 c4 c5
  obtain ⟨c0, c1, c2, c3, c4, c5⟩ := (unhide S3).c
  cases b2
  · have F := hide ((unhide T).not (fun hh => (unhide H2).no hh.1.2.2.1))
    clear T
    go_wp2
    go_ret
    exact ⟨by rw [unhide F]; rfl, (unhide S3).b⟩
  go_wp2_with fail
  refine (SOk5.sOk _ x.gl _ x.cl x.b.ls b3 rfl nl (unhide S3).r.ll (unhide S3).r.rl (unhide H3)).mono ?_
  rintro e w4 ⟨rfl, bb⟩
  have S4 := hide ((unhide S3).step bb)
  clear bb
  clear c0 c1 c2 c3 c4 c5
  obtain ⟨c0, c1, c2, c3, c4, c5⟩ := (unhide S4).c
  cases b3
  · have F := hide ((unhide T).not (fun hh => (unhide H3).no hh.1.2.2.2.1))
    clear T
    go_wp2
    go_ret
    exact ⟨by rw [unhide F]; rfl, (unhide S4).b⟩
  go_wp2_with fail
  refine (ITrade.sOk _ x.gt _ x.ct x.b.ts b4 rfl nt (unhide S4).r.lt (unhide S4).r.rt (unhide H4)).mono ?_
  rintro e w5 ⟨rfl, bb⟩
  have S5 := hide ((unhide S4).step bb)
  clear bb
  clear c0 c1 c2 c3 c4 c5
  obtain ⟨c0, c1, c2, c3, c4, c5⟩ := (unhide S5).c
  cases b4
  · have F := hide ((unhide T).not (fun hh => (unhide H4).no hh.1.2.2.2.2.1))
    clear T
    go_wp2
    go_ret
    exact ⟨by rw [unhide F]; rfl, (unhide S5).b⟩
  go_wp2_with fail
  refine (SOk5.sIn x.b.lot 0 1000000000 b5 _ (unhide H5)).mono ?_
  rintro e w6 ⟨rfl, rfl⟩
  have S6 := S5
  cases b5
  · have F := hide ((unhide T).not (fun hh => (unhide H5).no hh.1.2.2.2.2.2))
    clear T
    go_wp2
    go_ret
    exact ⟨by rw [unhide F]; rfl, (unhide S6).b⟩
  have L := hide (show Lists x.b from ⟨(unhide H0).yes, (unhide H1).yes, (unhide H2).yes, (unhide H3).yes, (unhide H4).yes, (unhide H5).yes⟩)
  go_wp2_with fail
  refine (sBals _ x b6 (unhide S6).r (unhide L) (unhide H6)).mono ?_
  rintro e w7 ⟨rfl, bb⟩
  have S7 := hide ((unhide S6).step bb)
  clear bb
  clear c0 c1 c2 c3 c4 c5
  obtain ⟨c0, c1, c2, c3, c4, c5⟩ := (unhide S7).c
  cases b6
  · have F := hide ((unhide T).not (fun hh => (unhide H6).no hh.2.1))
    clear T
    go_wp2
    go_ret
    exact ⟨by rw [unhide F]; rfl, (unhide S7).b⟩
  go_wp2_with fail
  refine (sLots _ x b7 (unhide S7).r (unhide L) (unhide H7)).mono ?_
  rintro e w8 ⟨rfl, bb⟩
  have S8 := hide ((unhide S7).step bb)
  clear bb
  clear c0 c1 c2 c3 c4 c5
  obtain ⟨c0, c1, c2, c3, c4, c5⟩ := (unhide S8).c
  cases b7
  · have F := hide ((unhide T).not (fun hh => (unhide H7).no hh.2.2.1))
    clear T
    go_wp2
    go_ret
    exact ⟨by rw [unhide F]; rfl, (unhide S8).b⟩
  go_wp2
  go_loopw [3] (fun i wr => ∃ (k : Nat), k ≤ x.b.ts.length ∧ i = .int .i64 k ∧ St w wr x ∧ Hid (∀ j, j < k → TradeFit x.b (el8 x.b.ts j))) (fun i _ => x.b.ts.length - (intOf i).toNat)
  case atStart => exact ⟨0, by omega, rfl, unhide S8, hide (fun i hi => absurd hi (by omega))⟩
  case round =>
    obtain ⟨k, hk, rfl, hS, HG⟩ := hrel
    clear S0 S1 S2 S3 S4 S5 S6 S7 S8 c0 c1 c2 c3 c4 c5
    obtain ⟨c0, c1, c2, c3, c4, c5⟩ := hS.c
    by_cases t : k < x.b.ts.length
    · obtain ⟨d0, d1, d2, d3, d4, d5, d6, d7⟩ := (hS.r.rt k t)
      have BAD := hide (show ¬ TradeFit x.b (el8 x.b.ts k) → b = false from fun hr => (unhide T).not (fun r => hr (r.2.2.2 k t)))
      have GOOD := hide (show TradeFit x.b (el8 x.b.ts k) → ∀ i, i < k + 1 → TradeFit x.b (el8 x.b.ts i) from fun hr i hi => by
        by_cases e : i = k
        · subst e; exact hr
        · exact (unhide HG) i (by omega))
      have FIT := hide (show TradeFit x.b (el8 x.b.ts k) ↔ kindOf x.b.ac (el8 x.b.ts k).2.1 = 1 ∧ kindOf x.b.ac (el8 x.b.ts k).2.2.1 = 1 ∧ kindOf x.b.ic (el8 x.b.ts k).2.2.2.1 = 2 ∧ kindOf x.b.ic (el8 x.b.ts k).2.2.2.2.2.1 = 1 from Iff.rfl)
      have wz := hS.s
      have S1 := hide (hS.step (one_more wr (.cells #[.int .i64 (el8 x.b.ts k).1, .int .i64 (el8 x.b.ts k).2.1, .int .i64 (el8 x.b.ts k).2.2.1, .int .i64 (el8 x.b.ts k).2.2.2.1, .int .i64 (el8 x.b.ts k).2.2.2.2.1, .int .i64 (el8 x.b.ts k).2.2.2.2.2.1, .int .i64 (el8 x.b.ts k).2.2.2.2.2.2.1, .int .i64 (el8 x.b.ts k).2.2.2.2.2.2.2] 141)))
      clear hS
      generalize TradeFit x.b (el8 x.b.ts k) = FP at *
      generalize (el8 x.b.ts k).1 = y0 at *
      generalize (el8 x.b.ts k).2.1 = y1 at *
      generalize (el8 x.b.ts k).2.2.1 = y2 at *
      generalize (el8 x.b.ts k).2.2.2.1 = y3 at *
      generalize (el8 x.b.ts k).2.2.2.2.1 = y4 at *
      generalize (el8 x.b.ts k).2.2.2.2.2.1 = y5 at *
      generalize (el8 x.b.ts k).2.2.2.2.2.2.1 = y6 at *
      generalize (el8 x.b.ts k).2.2.2.2.2.2.2 = y7 at *
      generalize hK1 : kindOf x.b.ac y1 = K1 at *
      generalize hK2 : kindOf x.b.ac y2 = K2 at *
      generalize hK3 : kindOf x.b.ic y3 = K3 at *
      generalize hK4 : kindOf x.b.ic y5 = K4 at *
      have N1 := hide hK1
      have N2 := hide hK2
      have N3 := hide hK3
      have N4 := hide hK4
      clear hK1 hK2 hK3 hK4
      go_wp2_with fail
      refine (sKindA _ x y1 K1 (unhide S1).r (unhide L).1 (unhide N1)).mono ?_
      rintro e v1 ⟨rfl, bb⟩
      have S2 := hide ((unhide S1).step bb)
      have f2 : v1.cell? ⟨wr.heap.size, 2, none⟩ = some (.int .i64 y2) := (bb.cell (p := ⟨wr.heap.size, 2, none⟩) (by simp)).trans (by simp)
      have f3 : v1.cell? ⟨wr.heap.size, 3, none⟩ = some (.int .i64 y3) := (bb.cell (p := ⟨wr.heap.size, 3, none⟩) (by simp)).trans (by simp)
      have f5 : v1.cell? ⟨wr.heap.size, 5, none⟩ = some (.int .i64 y5) := (bb.cell (p := ⟨wr.heap.size, 5, none⟩) (by simp)).trans (by simp)
      have z1 : wr.heap.size < v1.heap.size := by have := bb.size; simp at this; omega
      clear d0 d1 d2 d3 d4 d5 d6 d7
      clear bb c0 c1 c2 c3 c4 c5
      obtain ⟨c0, c1, c2, c3, c4, c5⟩ := (unhide S2).c
      by_cases q1 : K1 = 1
      rotate_left
      · have F := hide ((unhide BAD) (fun hh => q1 ((unhide FIT).1 hh).1))
        have hq : (K1 != 1) = true := by simp [q1]
        clear BAD GOOD FIT T q1
        go_wp2
        go_ret
        exact ⟨by rw [unhide F]; rfl, (unhide S2).b⟩
      have hq1 : (K1 != 1) = false := by simp [q1]
      have Q1 := hide q1
      clear q1
      go_wp2_with fail
      refine (sKindA _ x y2 K2 (unhide S2).r (unhide L).1 (unhide N2)).mono ?_
      rintro e v2 ⟨rfl, bb⟩
      have S3 := hide ((unhide S2).step bb)
      replace f2 : v2.cell? ⟨wr.heap.size, 2, none⟩ = some (.int .i64 y2) := (bb.cell (p := ⟨wr.heap.size, 2, none⟩) z1).trans f2
      replace f3 : v2.cell? ⟨wr.heap.size, 3, none⟩ = some (.int .i64 y3) := (bb.cell (p := ⟨wr.heap.size, 3, none⟩) z1).trans f3
      replace f5 : v2.cell? ⟨wr.heap.size, 5, none⟩ = some (.int .i64 y5) := (bb.cell (p := ⟨wr.heap.size, 5, none⟩) z1).trans f5
      have z2 : wr.heap.size < v2.heap.size := Nat.lt_of_lt_of_le z1 bb.size
      clear bb c0 c1 c2 c3 c4 c5
      obtain ⟨c0, c1, c2, c3, c4, c5⟩ := (unhide S3).c
      by_cases q2 : K2 = 1
      rotate_left
      · have F := hide ((unhide BAD) (fun hh => q2 ((unhide FIT).1 hh).2.1))
        have hq : (K2 != 1) = true := by simp [q2]
        clear BAD GOOD FIT T q2
        go_wp2
        go_ret
        exact ⟨by rw [unhide F]; rfl, (unhide S3).b⟩
      have hq2 : (K2 != 1) = false := by simp [q2]
      have Q2 := hide q2
      clear q2
      go_wp2_with fail
      refine (sKindI _ x y3 K3 (unhide S3).r (unhide L).2.1 (unhide N3)).mono ?_
      rintro e v3 ⟨rfl, bb⟩
      have S4 := hide ((unhide S3).step bb)
      replace f2 : v3.cell? ⟨wr.heap.size, 2, none⟩ = some (.int .i64 y2) := (bb.cell (p := ⟨wr.heap.size, 2, none⟩) z2).trans f2
      replace f3 : v3.cell? ⟨wr.heap.size, 3, none⟩ = some (.int .i64 y3) := (bb.cell (p := ⟨wr.heap.size, 3, none⟩) z2).trans f3
      replace f5 : v3.cell? ⟨wr.heap.size, 5, none⟩ = some (.int .i64 y5) := (bb.cell (p := ⟨wr.heap.size, 5, none⟩) z2).trans f5
      have z3 : wr.heap.size < v3.heap.size := Nat.lt_of_lt_of_le z2 bb.size
      clear bb c0 c1 c2 c3 c4 c5
      obtain ⟨c0, c1, c2, c3, c4, c5⟩ := (unhide S4).c
      by_cases q3 : K3 = 2
      rotate_left
      · have F := hide ((unhide BAD) (fun hh => q3 ((unhide FIT).1 hh).2.2.1))
        have hq : (K3 != 2) = true := by simp [q3]
        clear BAD GOOD FIT T q3
        go_wp2
        go_ret
        exact ⟨by rw [unhide F]; rfl, (unhide S4).b⟩
      have hq3 : (K3 != 2) = false := by simp [q3]
      have Q3 := hide q3
      clear q3
      go_wp2_with fail
      refine (sKindI _ x y5 K4 (unhide S4).r (unhide L).2.1 (unhide N4)).mono ?_
      rintro e v4 ⟨rfl, bb⟩
      have S5 := hide ((unhide S4).step bb)
      clear bb c0 c1 c2 c3 c4 c5
      obtain ⟨c0, c1, c2, c3, c4, c5⟩ := (unhide S5).c
      by_cases q4 : K4 = 1
      rotate_left
      · have F := hide ((unhide BAD) (fun hh => q4 ((unhide FIT).1 hh).2.2.2))
        have hq : (K4 != 1) = true := by simp [q4]
        clear BAD GOOD FIT T q4
        go_wp2
        go_ret
        exact ⟨by rw [unhide F]; rfl, (unhide S5).b⟩
      have hq4 : (K4 != 1) = false := by simp [q4]
      have Q4 := hide q4
      clear q4
      have G := hide ((unhide GOOD) ((unhide FIT).2 ⟨unhide Q1, unhide Q2, unhide Q3, unhide Q4⟩))
      clear BAD GOOD FIT
      go_wp2
      go_roundw
      case rel => exact ⟨k + 1, by omega, by go_num, unhide S5, G⟩
      case measure => simp [intOf]; omega
    · have F := hide ((unhide T).of ⟨unhide L, (unhide H6).yes, (unhide H7).yes, fun j hj => (unhide HG) j (by omega)⟩)
      have S1 := hide hS
      clear hS
      go_wp2
      go_ret
      exact ⟨by rw [unhide F]; rfl, (unhide S1).b⟩
end Go.Proofs.YtagmnociflkhcaaGreat.SBooksOk
namespace Go.Proofs.YtagmnociflkhcaaGreat.SPack13
open Go.ChangeShapes Go.WideShapes Go.ChangeAt Go.RowKit BMem Bks SPuts11 SNums13
open IBalsFit (St one_more)
open Lots (Says says_of)
open Bals (T3 el3)
open Tup5 (T5 el5)
open Tup8 (T8 el8)
open SPut11 (lit0)
abbrev Nm (y : Int) : Prop := 0 ≤ y ∧ y ≤ 2000000000000000
theorem flat_all {α : Type} {ps : List α} {f : α → List Int} {d : α} (h : ∀ i, i < ps.length → ∀ y ∈ f (ps.getD i d), Nm y) : ∀ y ∈ ps.flatMap f, Nm y := by
  intro y hy
  obtain ⟨p, hp, hy⟩ := List.mem_flatMap.1 hy
  obtain ⟨i, hi, rfl⟩ := List.getElem_of_mem hp
  refine h i hi y ?_
  simpa [List.getD, hi] using hy
theorem flat_len {α : Type} {ps : List α} {f : α → List Int} {m : Nat} (h : ∀ p, (f p).length = m) : (ps.flatMap f).length = m * ps.length := by
  induction ps with
  | nil => simp
  | cons p r ih => rw [List.flatMap_cons, List.length_append, ih, h, List.length_cons, Nat.mul_succ]; omega
theorem in2 {a b : Int} (ha : Nm a) (hb : Nm b) : ∀ y ∈ row2 (a, b), Nm y := by
  intro y hy
  simp only [row2, List.mem_cons, List.not_mem_nil, or_false] at hy
  rcases hy with rfl | rfl <;> assumption
theorem nums_in {b : Bk} (h : Lists b) : ∀ y ∈ nums b, Nm y := by
  obtain ⟨h1, h2, h3, h4, h5, h6⟩ := h
  have l1 := h1.1
  have l2 := h2.1
  have l3 := h3.1
  have l4 := h4.1
  have l5 := h5.1
  have c1 : ∀ y ∈ b.ac.flatMap row2, Nm y := flat_all (d := (0, 0)) fun i hi y hy => by
    obtain ⟨a1, a2, _⟩ := h1.2 i hi
    change y ∈ row2 (Chart.el b.ac i) at hy
    generalize Chart.el b.ac i = p at *
    obtain ⟨p0, p1⟩ := p
    simp only at a1 a2
    exact in2 ⟨by omega, by omega⟩ ⟨by omega, by omega⟩ y hy
  have c2 : ∀ y ∈ b.ic.flatMap row2, Nm y := flat_all (d := (0, 0)) fun i hi y hy => by
    obtain ⟨a1, a2, _⟩ := h2.2 i hi
    change y ∈ row2 (Chart.el b.ic i) at hy
    generalize Chart.el b.ic i = p at *
    obtain ⟨p0, p1⟩ := p
    simp only at a1 a2
    exact in2 ⟨by omega, by omega⟩ ⟨by omega, by omega⟩ y hy
  have c3 : ∀ y ∈ b.bs.flatMap row3, Nm y := flat_all (d := (0, 0, 0)) fun i hi y hy => by
    obtain ⟨a1, a2, a3, _⟩ := h3.2 i hi
    change y ∈ row3 (el3 b.bs i) at hy
    generalize el3 b.bs i = p at *
    obtain ⟨p0, p1, p2⟩ := p
    simp only [Bals.NoOk, Bals.Amt] at a1 a2 a3
    simp only [row3, List.mem_cons, List.not_mem_nil, or_false] at hy
    unfold Nm
    omega
  have c4 : ∀ y ∈ b.ls.flatMap row5, Nm y := flat_all (d := (0, 0, 0, 0, 0)) fun i hi y hy => by
    obtain ⟨a1, a2, a3, a4, a5⟩ := (h4.2.1 i hi).1
    change y ∈ row5 (el5 b.ls i) at hy
    generalize el5 b.ls i = p at *
    obtain ⟨p0, p1, p2, p3, p4⟩ := p
    simp only [Lots.NoOk] at a1 a2 a3 a4 a5
    simp only [row5, List.mem_cons, List.not_mem_nil, or_false] at hy
    unfold Nm
    omega
  have c5 : ∀ y ∈ b.ts.flatMap row8, Nm y := flat_all (d := (0, 0, 0, 0, 0, 0, 0, 0)) fun i hi y hy => by
    have a := (h5.2 i hi).1
    change y ∈ row8 (el8 b.ts i) at hy
    generalize el8 b.ts i = p at *
    obtain ⟨p0, p1, p2, p3, p4, p5, p6, p7⟩ := p
    simp only [TOne, Lots.NoOk] at a
    simp only [row8, List.mem_cons, List.not_mem_nil, or_false] at hy
    unfold Nm
    omega
  intro y hy
  unfold nums at hy
  simp only [List.mem_append, List.mem_cons, List.not_mem_nil, or_false] at hy
  rcases hy with ((((((((((rfl | hy) | rfl) | hy) | rfl) | hy) | rfl) | hy) | rfl) | hy) | rfl)
  · unfold Nm; omega
  · exact c1 y hy
  · unfold Nm; omega
  · exact c2 y hy
  · unfold Nm; omega
  · exact c3 y hy
  · unfold Nm; omega
  · exact c4 y hy
  · unfold Nm; omega
  · exact c5 y hy
  · unfold Nm; omega
theorem nums_len {b : Bk} (h : Lists b) : (nums b).length ≤ 100000 := by
  obtain ⟨h1, h2, h3, h4, h5, _⟩ := h
  have l1 := h1.1
  have l2 := h2.1
  have l3 := h3.1
  have l4 := h4.1
  have l5 := h5.1
  unfold nums
  simp only [List.length_append, List.length_cons, List.length_nil, flat_len (f := row2) (m := 2) (fun _ => rfl), flat_len (f := row3) (m := 3) (fun _ => rfl), flat_len (f := row5) (m := 5) (fun _ => rfl), flat_len (f := row8) (m := 8) (fun _ => rfl)]
  omega
theorem nums_get {b : Bk} (h : Lists b) (i : Nat) (hi : i < (nums b).length) : (nums b).getD i 0 ≤ 9223372036854775807 := by
  have := nums_in h ((nums b)[i]) (List.getElem_mem _)
  unfold Nm at this
  simp [List.getD, hi]
  omega
open Classical in
noncomputable def packB (b : Bk) : List Int := if Ok b then numsB (nums b) else []
set_option maxRecDepth 100000 in
set_option maxHeartbeats 32000000 in
theorem sBooksPack (w : World) (x : Bx) (b : Bool) (h : Rd w x) (hb : Says b (Ok x.b)) :
    Calls Tryz.prog 22 #[.agg #[.slice (some ⟨x.ga, 0, none⟩) x.b.ac.length x.ca, .slice (some ⟨x.gi, 0, none⟩) x.b.ic.length x.ci, .slice (some ⟨x.gb, 0, none⟩) x.b.bs.length x.cb, .slice (some ⟨x.gl, 0, none⟩) x.b.ls.length x.cl, .slice (some ⟨x.gt, 0, none⟩) x.b.ts.length x.ct, .int .i64 x.b.lot]] w fun e w' => ∃ g c, e = .returned (.tuple #[.slice (some ⟨g, 0, none⟩) (packB x.b).length c, .bool b]) ∧ ByteH.Own w' w.heap.size g (packB x.b).length c (packB x.b) ∧ Below w.heap.size w w' := by
  have S0 := hide (St.start h 40)
  have HB := hide hb
  cases b with
  | false =>
    have e : packB x.b = [] := if_neg (fun r => by have := hb.of r; simp at this)
    rw [e]
    clear e h hb
    have s0 := (unhide S0).c
    obtain ⟨c0, c1, c2, c3, c4, c5⟩ := s0
    go_enter Tryz.func22, Tryz.ntmps22
    go_wp2_with fail
    refine (SBooksOk.sBooksOk _ x false (unhide S0).r (unhide HB)).mono ?_
    rintro e u ⟨rfl, bb⟩
    have S1 := hide ((unhide S0).step bb)
    have us := bb.size
    clear bb
    have O5 := hide (lit0 u w.heap.size (by have := (unhide S1).b.size; omega) rfl)
    have B5 := hide ((unhide S1).b.alloc (by have := (unhide S1).b.size; omega) (.cells #[] 5))
    go_wp2
    go_ret2
    exact ⟨_, 0, rfl, unhide O5, unhide B5⟩
  | true =>
    have ok := hb.yes
    have e : packB x.b = numsB (nums x.b) := if_pos ok
    rw [e]
    have li := ok.1
    have SN := hide (fun u h => sNums u x h (fun i hi => (li.2.2.1.2 i hi).2.2.1))
    have SP := hide (fun u g c hg hr => sPutNums u g c (nums x.b) (by have := nums_len li; omega) hg hr (nums_get li))
    clear e h hb ok li
    obtain ⟨c0, c1, c2, c3, c4, c5⟩ := (unhide S0).c
    generalize nums x.b = ys at *
    go_enter Tryz.func22, Tryz.ntmps22
    go_wp2_with fail
    refine (SBooksOk.sBooksOk _ x true (unhide S0).r (unhide HB)).mono ?_
    rintro e u ⟨rfl, bb⟩
    have S1 := hide ((unhide S0).step bb)
    clear bb c0 c1 c2 c3 c4 c5
    obtain ⟨c0, c1, c2, c3, c4, c5⟩ := (unhide S1).c
    go_wp2_with fail
    refine ((unhide SN) _ (unhide S1).r).mono ?_
    rintro e u2 ⟨g2, k2, rfl, o2, b2⟩
    have S2 := hide ((unhide S1).step b2)
    have O2 := hide o2
    clear o2 b2 S1 S0
    go_wp2_with fail
    refine ((unhide SP) _ g2 k2 (unhide O2).lt.2 (unhide O2).at).mono ?_
    rintro e u3 ⟨g3, k3, rfl, o3, b3⟩
    have O3 := hide (o3.mono (base' := w.heap.size) (by have := (unhide S2).b.size; omega))
    have B3 := hide ((unhide S2).b.trans (b3.mono (by have := (unhide S2).b.size; omega)))
    clear o3 b3
    go_wp2
    go_ret2
    exact ⟨g3, k3, rfl, unhide O3, unhide B3⟩
end Go.Proofs.YtagmnociflkhcaaGreat.SPack13
namespace Go.Proofs.YtagmnociflkhcaaGreat.SSave16
open Go.ChangeShapes Go.WideShapes Go.ChangeAt Go.RowKit BMem Bks IBalsFit SNums13
open Lots (Says)
open SPack13 (packB sBooksPack)
open SPut11 (numB sPutNum wp_catB AtO)
open SSeal11 (sealB sSeal)
open SegP15 (okS)
open SSg16 (sSegOk)
open Conv15 (of_bytes)
noncomputable def bodyS (f : Int) (b : Bk) : List Int := numB f ++ packB b
noncomputable def saveD (f : Int) (b : Bk) (ok : Bool) : ByteArray × Bool := if ok = true ∧ okS f = true ∧ (bodyS f b).length ≤ 9000 then (strOfNums (sealB (bodyS f b)), true) else (ByteArray.empty, false)
theorem numB_in {x : Int} (h : x ≤ 9223372036854775807) : ∀ y ∈ numB x, 0 ≤ y ∧ y ≤ 255 := by
  unfold SPut11.numB
  split
  · simp
  · exact SPut11.numF_in 8 _ (by omega)
theorem pack_in (b : Bk) : ∀ y ∈ packB b, 0 ≤ y ∧ y ≤ 255 := by
  unfold SPack13.packB
  split
  · rename_i ok
    unfold SPuts11.numsB
    split
    · intro y hy
      rw [List.mem_flatMap] at hy
      obtain ⟨x, hx, hy⟩ := hy
      have := SPack13.nums_in ok.1 x hx
      unfold SPack13.Nm at this
      exact numB_in (by omega) y hy
    · simp
  · simp
theorem body_in {f : Int} (b : Bk) : f ≤ 9223372036854775807 → ∀ i, i < (bodyS f b).length → 0 ≤ (bodyS f b).getD i 0 ∧ (bodyS f b).getD i 0 ≤ 255 := by
  intro hf i hi
  have : (bodyS f b)[i] ∈ bodyS f b := List.getElem_mem hi
  simp only [List.getD, List.getElem?_eq_getElem hi, Option.getD_some]
  generalize (bodyS f b)[i] = y at *
  unfold bodyS at this
  rcases List.mem_append.1 this with h | h
  · exact numB_in hf y h
  · exact pack_in b y h
theorem pack_len2 (b : Bk) : (packB b).length ≤ 900000 := by
  unfold SPack13.packB
  split
  · rename_i ok
    unfold SPuts11.numsB
    split
    · have h := SPuts11.flat_len (nums b) (SPack13.nums_get ok.1) (nums b).length (Nat.le_refl _)
      rw [List.take_length] at h
      have := SPack13.nums_len ok.1
      omega
    · simp
  · simp
structure Sv (w W : World) (g : Nat) (f : Int) (x : Bx) : Prop where
  f : W.cell? ⟨g, 0, none⟩ = some (.int .i64 f)
  c0 : W.cell? ⟨g, 1, none⟩ = some (.slice (some ⟨x.ga, 0, none⟩) x.b.ac.length x.ca)
  c1 : W.cell? ⟨g, 2, none⟩ = some (.slice (some ⟨x.gi, 0, none⟩) x.b.ic.length x.ci)
  c2 : W.cell? ⟨g, 3, none⟩ = some (.slice (some ⟨x.gb, 0, none⟩) x.b.bs.length x.cb)
  c3 : W.cell? ⟨g, 4, none⟩ = some (.slice (some ⟨x.gl, 0, none⟩) x.b.ls.length x.cl)
  c4 : W.cell? ⟨g, 5, none⟩ = some (.slice (some ⟨x.gt, 0, none⟩) x.b.ts.length x.ct)
  c5 : W.cell? ⟨g, 6, none⟩ = some (.int .i64 x.b.lot)
  r : Rd W x
  b : Below w.heap.size w W
  lt : g < W.heap.size
theorem Sv.step {w W W' : World} {g : Nat} {f : Int} {x : Bx} (h : Sv w W g f x) (k : Below W.heap.size W W') : Sv w W' g f x :=
  ⟨(k.cell (p := ⟨g, 0, none⟩) h.lt).trans h.f, (k.cell (p := ⟨g, 1, none⟩) h.lt).trans h.c0, (k.cell (p := ⟨g, 2, none⟩) h.lt).trans h.c1, (k.cell (p := ⟨g, 3, none⟩) h.lt).trans h.c2, (k.cell (p := ⟨g, 4, none⟩) h.lt).trans h.c3, (k.cell (p := ⟨g, 5, none⟩) h.lt).trans h.c4, (k.cell (p := ⟨g, 6, none⟩) h.lt).trans h.c5, h.r.below k, h.b.trans (k.mono h.b.size), Nat.lt_of_lt_of_le h.lt k.size⟩
theorem Sv.made {w W : World} {x : Bx} (h : Rd W x) (b : Below w.heap.size w W) (f : Int) (e : TypeId) : Sv w (W.alloc (.cells #[.int .i64 f, .slice (some ⟨x.ga, 0, none⟩) x.b.ac.length x.ca, .slice (some ⟨x.gi, 0, none⟩) x.b.ic.length x.ci, .slice (some ⟨x.gb, 0, none⟩) x.b.bs.length x.cb, .slice (some ⟨x.gl, 0, none⟩) x.b.ls.length x.cl, .slice (some ⟨x.gt, 0, none⟩) x.b.ts.length x.ct, .int .i64 x.b.lot] e)) W.heap.size f x :=
  ⟨by simp, by simp, by simp, by simp, by simp, by simp, by simp, h.alloc _, b.alloc b.size _, by simp⟩
set_option maxRecDepth 100000 in
set_option maxHeartbeats 32000000 in
theorem sSavePack (w : World) (x : Bx) (f : Int) (b : Bool) (h : Rd w x) (hb : Says b (Ok x.b)) :
    Calls Tryz.prog 7 #[.agg #[.int .i64 f, .slice (some ⟨x.ga, 0, none⟩) x.b.ac.length x.ca, .slice (some ⟨x.gi, 0, none⟩) x.b.ic.length x.ci, .slice (some ⟨x.gb, 0, none⟩) x.b.bs.length x.cb, .slice (some ⟨x.gl, 0, none⟩) x.b.ls.length x.cl, .slice (some ⟨x.gt, 0, none⟩) x.b.ts.length x.ct, .int .i64 x.b.lot]] w fun e w' => e = .returned (.tuple #[.string (saveD f x.b b).1, .bool (saveD f x.b b).2]) ∧ Below w.heap.size w w' := by
  have S0 := hide (Sv.made h (Below.refl _ w) f 42)
  have PK := hide (fun u h => sBooksPack u x b h hb)
  have PL := hide (pack_len2 x.b)
  have BI := hide (body_in (f := f) x.b)
  have RE := hide (show saveD f x.b b = if b = true ∧ okS f = true ∧ (bodyS f x.b).length ≤ 9000 then (strOfNums (sealB (bodyS f x.b)), true) else (ByteArray.empty, false) from rfl)
  have BE := hide (show bodyS f x.b = numB f ++ packB x.b from rfl)
  generalize saveD f x.b b = rr at *
  generalize bodyS f x.b = bo at *
  generalize packB x.b = pk at *
  clear h hb
  have g0 := (unhide S0).f
  have g1 := (unhide S0).c0
  have g2 := (unhide S0).c1
  have g3 := (unhide S0).c2
  have g4 := (unhide S0).c3
  have g5 := (unhide S0).c4
  have g6 := (unhide S0).c5
  go_enter Tryz.func7, Tryz.ntmps7
  go_wp2_with fail
  refine (unhide PK _ (unhide S0).r).mono ?_
  rintro e u ⟨gp, cp, rfl, op, bb⟩
  have S1 := hide ((unhide S0).step bb)
  have OP := hide op
  have us := bb.size
  clear bb op g0 g1 g2 g3 g4 g5 g6 S0 PK
  cases b with
  | false =>
    have E := hide (show rr = (ByteArray.empty, false) by rw [unhide RE, if_neg (fun h => by simp at h)])
    clear RE
    go_wp2
    go_ret2
    rw [unhide E]
    exact ⟨rfl, (unhide S1).b⟩
  | true =>
    have g0 := (unhide S1).f
    cases sk : okS f with
    | false =>
      have E := hide (show rr = (ByteArray.empty, false) by rw [unhide RE, if_neg (fun h => by rw [sk] at h; simp at h)])
      have SK := hide sk
      clear RE sk
      go_wp2_with fail
      refine (sSegOk _ f false (unhide SK)).mono ?_
      rintro e u ⟨rfl, rfl⟩
      go_wp2
      go_ret2
      rw [unhide E]
      exact ⟨rfl, (unhide S1).b⟩
    | true =>
      have SK := hide sk
      have f19 : 0 ≤ f ∧ f ≤ 19 := of_decide_eq_true sk
      have RR := hide (show rr = if bo.length ≤ 9000 then (strOfNums (sealB bo), true) else (ByteArray.empty, false) by
        rw [unhide RE]
        by_cases q : bo.length ≤ 9000
        · rw [if_pos ⟨rfl, sk, q⟩, if_pos q]
        · rw [if_neg (fun h => q h.2.2), if_neg q])
      clear RE sk
      go_wp2_with fail
      refine (sSegOk _ f true (unhide SK)).mono ?_
      rintro e u ⟨rfl, rfl⟩
      have n9 := SPut11.numB_nine (x := f) (by omega)
      have pl := unhide PL
      go_wp2_with fail
      refine (sPutNum _ f (by omega)).mono ?_
      rintro e u1 ⟨g1, c1, rfl, o1, b1⟩
      have S2 := hide ((unhide S1).step b1)
      have O1 := hide (o1.mono (base' := w.heap.size) (by have := (unhide S1).b.size; omega))
      have OP1 := hide ((unhide OP).below b1 (unhide OP).lt.2)
      have lg := o1.lt
      have gpl := (unhide OP).lt
      have us1 := b1.size
      have wl := (unhide S1).b.size
      clear o1 b1 g0 OP S1
      go_wp2_with (first | (at_builtin; refine wp_catB _ rfl _ _ rfl w.heap.size g1 (numB f).length c1 pk.length (numB f) pk gp 0 cp rfl rfl (unhide O1) rfl (AtO.of (unhide OP1).at) (by omega) (by omega) ?_) | go_in)
      intro g2 c2 w2 o2 gr2 loc2
      have B2 := hide ((unhide S2).b.grown gr2 (by omega) (fun j hj => by cases hj; omega))
      have us2 := gr2.size
      rw [← unhide BE] at o2
      have L2 := hide (show (numB f).length + pk.length = bo.length by rw [unhide BE]; simp)
      have lb := (unhide L2)
      have SE := hide (show Calls Tryz.prog 24 #[.slice (some ⟨g2, 0, none⟩) ((numB f).length + pk.length) c2] w2 fun e w' => ∃ g c, e = .returned (.tuple #[.slice (some ⟨g, 0, none⟩) (sealB bo).length c, .bool (decide (bo.length ≤ 9000))]) ∧ ByteH.Own w' w2.heap.size g (sealB bo).length c (sealB bo) ∧ Below w2.heap.size w2 w' from by
        rw [unhide L2]
        exact sSeal w2 g2 c2 bo (by omega) o2.lt.2 (fun i hi => ⟨o2.at i hi, (unhide BI) (by omega) i hi⟩))
      have L9 := hide (show (sealB bo).length ≤ 1048576 ∨ True from .inr trivial)
      clear o2 gr2 loc2 lb
      generalize (numB f).length + pk.length = m at *
      clear n9 pl L9
      go_wp2_with fail
      refine (unhide SE).mono ?_
      rintro e u3 ⟨g3, c3, rfl, o3, b3⟩
      have B3 := hide ((unhide B2).trans (b3.mono (unhide B2).size))
      have CB := of_bytes u3 g3 c3 (sealB bo) o3.at
      clear o3 b3 SE
      by_cases q : bo.length ≤ 9000
      · have E := hide (show rr = (strOfNums (sealB bo), true) by rw [unhide RR, if_pos q])
        have qd : decide (bo.length ≤ 9000) = true := decide_eq_true q
        clear RR q
        generalize strOfNums (sealB bo) = st at *
        go_wp2
        go_ret2
        rw [unhide E]
        exact ⟨rfl, unhide B3⟩
      · have E := hide (show rr = (ByteArray.empty, false) by rw [unhide RR, if_neg q])
        have qd : decide (bo.length ≤ 9000) = false := decide_eq_false q
        clear RR q CB
        go_wp2
        go_ret2
        rw [unhide E]
        exact ⟨rfl, unhide B3⟩
end Go.Proofs.YtagmnociflkhcaaGreat.SSave16
namespace Go.Proofs.YtagmnociflkhcaaGreat.SaveH16
open Go.ChangeShapes Go.WideShapes Go.ChangeAt Go.RowKit BMem Bks BHelp BkEq
open IBalsFit (one_more)
open ILists (boxed)
open SSave16 (Sv)
open Bx16
set_option maxRecDepth 100000 in
set_option maxHeartbeats 32000000 in
theorem szBG (w : World) (y : Ix) (left : Int) (h0 : 0 ≤ left) (h1 : left ≤ 1048576) (hf : Fits y.b) :
    Calls Tryz.prog 21 #[.agg #[.slice y.aa y.b.ac.length y.ca, .slice y.ai y.b.ic.length y.ci, .slice y.ab y.b.bs.length y.cb, .slice y.al y.b.ls.length y.cl, .slice y.ats y.b.ts.length y.ct, .int .i64 y.b.lot], .int .i64 left] w fun e w' => ∃ r, e = .returned (.int .i64 r) ∧ (r = -1 ∨ (0 ≤ r ∧ Small y.b)) ∧ Below w.heap.size w w' := by
  obtain ⟨fa, fi, fb, fl, ft⟩ := hf
  have B0 := hide ((Below.refl w.heap.size w).alloc (Nat.le_refl _) (.cells #[.slice y.aa y.b.ac.length y.ca, .slice y.ai y.b.ic.length y.ci, .slice y.ab y.b.bs.length y.cb, .slice y.al y.b.ls.length y.cl, .slice y.ats y.b.ts.length y.ct, .int .i64 y.b.lot] 28))
  go_enter Tryz.func21, Tryz.ntmps21
  go_wp2_with fail
  by_cases q0 : (y.b.ac.length : Int) ≤ left
  rotate_left
  · refine (AccountMark.sz_no _ _ _ left _ q0 (by omega) (by omega) fa).mono ?_
    rintro e u ⟨rfl, rfl⟩
    go_wp2
    go_ret
    exact ⟨-1, rfl, .inl rfl, unhide B0⟩
  refine (AccountMark.sz_yes _ _ _ left _ q0 (by omega)).mono ?_
  rintro e u0 ⟨rfl, rfl⟩
  obtain ⟨m0, hm0⟩ : ∃ m : Int, Hid (m = left - (y.b.ac.length : Int)) := ⟨_, rfl⟩
  rw [← unhide hm0]
  have M0 : 0 ≤ m0 ∧ m0 ≤ 1048576 := by have := unhide hm0; omega
  have Q0 := hide q0
  clear q0
  go_wp2_with fail
  by_cases q1 : (y.b.ic.length : Int) ≤ m0
  rotate_left
  · refine (InstrMark.sz_no _ _ _ m0 _ q1 (by omega) (by omega) fi).mono ?_
    rintro e u ⟨rfl, rfl⟩
    go_wp2
    go_ret
    exact ⟨-1, rfl, .inl rfl, unhide B0⟩
  refine (InstrMark.sz_yes _ _ _ m0 _ q1 (by omega)).mono ?_
  rintro e u1 ⟨rfl, rfl⟩
  obtain ⟨m1, hm1⟩ : ∃ m : Int, Hid (m = m0 - (y.b.ic.length : Int)) := ⟨_, rfl⟩
  rw [← unhide hm1]
  have M1 : 0 ≤ m1 ∧ m1 ≤ 1048576 := by have := unhide hm1; omega
  have Q1 := hide q1
  clear q1
  go_wp2_with fail
  by_cases q2 : (y.b.bs.length : Int) ≤ m1
  rotate_left
  · refine (BalHelp.sz_no _ _ _ m1 _ q2 (by omega) (by omega) fb).mono ?_
    rintro e u ⟨rfl, rfl⟩
    go_wp2
    go_ret
    exact ⟨-1, rfl, .inl rfl, unhide B0⟩
  refine (BalHelp.sz_yes _ _ _ m1 _ q2 (by omega)).mono ?_
  rintro e u2 ⟨rfl, rfl⟩
  obtain ⟨m2, hm2⟩ : ∃ m : Int, Hid (m = m1 - (y.b.bs.length : Int)) := ⟨_, rfl⟩
  rw [← unhide hm2]
  have M2 : 0 ≤ m2 ∧ m2 ≤ 1048576 := by have := unhide hm2; omega
  have Q2 := hide q2
  clear q2
  go_wp2_with fail
  by_cases q3 : (y.b.ls.length : Int) ≤ m2
  rotate_left
  · refine (LotHelp.sz_no _ _ _ m2 _ q3 (by omega) (by omega) fl).mono ?_
    rintro e u ⟨rfl, rfl⟩
    go_wp2
    go_ret
    exact ⟨-1, rfl, .inl rfl, unhide B0⟩
  refine (LotHelp.sz_yes _ _ _ m2 _ q3 (by omega)).mono ?_
  rintro e u3 ⟨rfl, rfl⟩
  obtain ⟨m3, hm3⟩ : ∃ m : Int, Hid (m = m2 - (y.b.ls.length : Int)) := ⟨_, rfl⟩
  rw [← unhide hm3]
  have M3 : 0 ≤ m3 ∧ m3 ≤ 1048576 := by have := unhide hm3; omega
  have Q3 := hide q3
  clear q3
  go_wp2_with fail
  by_cases q4 : (y.b.ts.length : Int) ≤ m3
  rotate_left
  · refine (TradeHelp.sz_no _ _ _ m3 _ q4 (by omega) (by omega) ft).mono ?_
    rintro e u ⟨rfl, rfl⟩
    go_wp2
    go_ret
    exact ⟨-1, rfl, .inl rfl, unhide B0⟩
  refine (TradeHelp.sz_yes _ _ _ m3 _ q4 (by omega)).mono ?_
  rintro e u4 ⟨rfl, rfl⟩
  obtain ⟨m4, hm4⟩ : ∃ m : Int, Hid (m = m3 - (y.b.ts.length : Int)) := ⟨_, rfl⟩
  rw [← unhide hm4]
  have M4 : 0 ≤ m4 ∧ m4 ≤ 1048576 := by have := unhide hm4; omega
  have Q4 := hide q4
  clear q4
  have SM := hide (show Small y.b from by
    have a0 := unhide Q0
    have a1 := unhide Q1
    have a2 := unhide Q2
    have a3 := unhide Q3
    have a4 := unhide Q4
    exact ⟨by omega, by omega, by omega, by omega, by omega⟩)
  go_wp2
  go_ret
  exact ⟨m4, rfl, .inr ⟨M4.1, unhide SM⟩, unhide B0⟩
def g1 (s : Int) (b : Bk) : Int := s + 2 * (b.ac.length : Int)
def g2 (s : Int) (b : Bk) : Int := g1 s b + 2 * (b.ic.length : Int)
def g3 (s : Int) (b : Bk) : Int := g2 s b + 3 * (b.bs.length : Int)
def g4 (s : Int) (b : Bk) : Int := g3 s b + 5 * (b.ls.length : Int)
def g5 (s : Int) (b : Bk) : Int := g4 s b + 8 * (b.ts.length : Int)
structure Si (W : World) (g : Nat) (f : Int) (y : Ix) : Prop where
  f : W.cell? ⟨g, 0, none⟩ = some (.int .i64 f)
  c0 : W.cell? ⟨g, 1, none⟩ = some (.slice y.aa y.b.ac.length y.ca)
  c1 : W.cell? ⟨g, 2, none⟩ = some (.slice y.ai y.b.ic.length y.ci)
  c2 : W.cell? ⟨g, 3, none⟩ = some (.slice y.ab y.b.bs.length y.cb)
  c3 : W.cell? ⟨g, 4, none⟩ = some (.slice y.al y.b.ls.length y.cl)
  c4 : W.cell? ⟨g, 5, none⟩ = some (.slice y.ats y.b.ts.length y.ct)
  c5 : W.cell? ⟨g, 6, none⟩ = some (.int .i64 y.b.lot)
  lt : g < W.heap.size
theorem Si.step {W W' : World} {g : Nat} {f : Int} {y : Ix} (h : Si W g f y) (k : Below W.heap.size W W') : Si W' g f y :=
  ⟨(k.cell (p := ⟨g, 0, none⟩) h.lt).trans h.f, (k.cell (p := ⟨g, 1, none⟩) h.lt).trans h.c0, (k.cell (p := ⟨g, 2, none⟩) h.lt).trans h.c1, (k.cell (p := ⟨g, 3, none⟩) h.lt).trans h.c2, (k.cell (p := ⟨g, 4, none⟩) h.lt).trans h.c3, (k.cell (p := ⟨g, 5, none⟩) h.lt).trans h.c4, (k.cell (p := ⟨g, 6, none⟩) h.lt).trans h.c5, Nat.lt_of_lt_of_le h.lt k.size⟩
theorem Si.made (W : World) (f : Int) (y : Ix) (e : TypeId) : Si (W.alloc (.cells #[.int .i64 f, .slice y.aa y.b.ac.length y.ca, .slice y.ai y.b.ic.length y.ci, .slice y.ab y.b.bs.length y.cb, .slice y.al y.b.ls.length y.cl, .slice y.ats y.b.ts.length y.ct, .int .i64 y.b.lot] e)) W.heap.size f y := ⟨by simp, by simp, by simp, by simp, by simp, by simp, by simp, by simp⟩
set_option maxRecDepth 100000 in
theorem szSv (w : World) (f : Int) (y : Ix) (left : Int) (h0 : 0 ≤ left) (h1 : left ≤ 1048576) (hf : Fits y.b) :
    Calls Tryz.prog 6 #[.agg #[.int .i64 f, .slice y.aa y.b.ac.length y.ca, .slice y.ai y.b.ic.length y.ci, .slice y.ab y.b.bs.length y.cb, .slice y.al y.b.ls.length y.cl, .slice y.ats y.b.ts.length y.ct, .int .i64 y.b.lot], .int .i64 left] w fun e w' => ∃ r, e = .returned (.int .i64 r) ∧ (r = -1 ∨ (0 ≤ r ∧ Small y.b)) ∧ Below w.heap.size w w' := by
  have I0 := hide (Si.made w f y 30)
  have B0 := hide (one_more w (.cells #[.int .i64 f, .slice y.aa y.b.ac.length y.ca, .slice y.ai y.b.ic.length y.ci, .slice y.ab y.b.bs.length y.cb, .slice y.al y.b.ls.length y.cl, .slice y.ats y.b.ts.length y.ct, .int .i64 y.b.lot] 30))
  have SZ := hide (fun u => szBG u y left h0 h1 hf)
  have c0 := (unhide I0).c0
  have c1 := (unhide I0).c1
  have c2 := (unhide I0).c2
  have c3 := (unhide I0).c3
  have c4 := (unhide I0).c4
  have c5 := (unhide I0).c5
  go_enter Tryz.func6, Tryz.ntmps6
  go_wp2_with fail
  refine (unhide SZ _).mono ?_
  rintro e u ⟨r, rfl, hr, bb⟩
  have B1 := hide ((unhide B0).trans (bb.mono (unhide B0).size))
  have HR := hide hr
  clear bb
  rcases hr with rfl | ⟨r0, _⟩
  · go_wp2
    go_ret
    exact ⟨-1, rfl, .inl rfl, unhide B1⟩
  · have rn : ¬ r < 0 := by omega
    go_wp2
    go_ret
    exact ⟨r, rfl, unhide HR, unhide B1⟩
theorem fin7 {w u W : World} {x : Bx} {a0 a1 a2 a3 a4 a5 a6 b0 b1 b2 b3 b4 b5 b6 : Value} (B : Below w.heap.size w u) (K1 : Bx7 u w.heap.size (w.heap.size + 1) a0 a1 a2 a3 a4 a5 a6) (K2 : Bx7 u w.heap.size (w.heap.size + 2) b0 b1 b2 b3 b4 b5 b6) (O : Ow u W.heap.size x) (f : Int) (us : W.heap.size ≤ u.heap.size) (s3 : W.heap.size = w.heap.size + 3) :
    Ow ((((((((((((((u).setCell ⟨w.heap.size + 1 + 1, 1, none⟩ (.slice (some ⟨x.ga, 0, none⟩) x.b.ac.length x.ca)).setCell ⟨w.heap.size + 1 + 1, 2, none⟩ (.slice (some ⟨x.gi, 0, none⟩) x.b.ic.length x.ci)).setCell ⟨w.heap.size + 1 + 1, 3, none⟩ (.slice (some ⟨x.gb, 0, none⟩) x.b.bs.length x.cb)).setCell ⟨w.heap.size + 1 + 1, 4, none⟩ (.slice (some ⟨x.gl, 0, none⟩) x.b.ls.length x.cl)).setCell ⟨w.heap.size + 1 + 1, 5, none⟩ (.slice (some ⟨x.gt, 0, none⟩) x.b.ts.length x.ct)).setCell ⟨w.heap.size + 1 + 1, 6, none⟩ (.int .i64 x.b.lot)).setCell ⟨w.heap.size + 1, 0, none⟩ (.int .i64 f)).setCell ⟨w.heap.size + 1, 1, none⟩ (.slice (some ⟨x.ga, 0, none⟩) x.b.ac.length x.ca)).setCell ⟨w.heap.size + 1, 2, none⟩ (.slice (some ⟨x.gi, 0, none⟩) x.b.ic.length x.ci)).setCell ⟨w.heap.size + 1, 3, none⟩ (.slice (some ⟨x.gb, 0, none⟩) x.b.bs.length x.cb)).setCell ⟨w.heap.size + 1, 4, none⟩ (.slice (some ⟨x.gl, 0, none⟩) x.b.ls.length x.cl)).setCell ⟨w.heap.size + 1, 5, none⟩ (.slice (some ⟨x.gt, 0, none⟩) x.b.ts.length x.ct)).setCell ⟨w.heap.size + 1, 6, none⟩ (.int .i64 x.b.lot)) w.heap.size x ∧ Below w.heap.size w ((((((((((((((u).setCell ⟨w.heap.size + 1 + 1, 1, none⟩ (.slice (some ⟨x.ga, 0, none⟩) x.b.ac.length x.ca)).setCell ⟨w.heap.size + 1 + 1, 2, none⟩ (.slice (some ⟨x.gi, 0, none⟩) x.b.ic.length x.ci)).setCell ⟨w.heap.size + 1 + 1, 3, none⟩ (.slice (some ⟨x.gb, 0, none⟩) x.b.bs.length x.cb)).setCell ⟨w.heap.size + 1 + 1, 4, none⟩ (.slice (some ⟨x.gl, 0, none⟩) x.b.ls.length x.cl)).setCell ⟨w.heap.size + 1 + 1, 5, none⟩ (.slice (some ⟨x.gt, 0, none⟩) x.b.ts.length x.ct)).setCell ⟨w.heap.size + 1 + 1, 6, none⟩ (.int .i64 x.b.lot)).setCell ⟨w.heap.size + 1, 0, none⟩ (.int .i64 f)).setCell ⟨w.heap.size + 1, 1, none⟩ (.slice (some ⟨x.ga, 0, none⟩) x.b.ac.length x.ca)).setCell ⟨w.heap.size + 1, 2, none⟩ (.slice (some ⟨x.gi, 0, none⟩) x.b.ic.length x.ci)).setCell ⟨w.heap.size + 1, 3, none⟩ (.slice (some ⟨x.gb, 0, none⟩) x.b.bs.length x.cb)).setCell ⟨w.heap.size + 1, 4, none⟩ (.slice (some ⟨x.gl, 0, none⟩) x.b.ls.length x.cl)).setCell ⟨w.heap.size + 1, 5, none⟩ (.slice (some ⟨x.gt, 0, none⟩) x.b.ts.length x.ct)).setCell ⟨w.heap.size + 1, 6, none⟩ (.int .i64 x.b.lot)) ∧ Bx7 ((((((((((((((u).setCell ⟨w.heap.size + 1 + 1, 1, none⟩ (.slice (some ⟨x.ga, 0, none⟩) x.b.ac.length x.ca)).setCell ⟨w.heap.size + 1 + 1, 2, none⟩ (.slice (some ⟨x.gi, 0, none⟩) x.b.ic.length x.ci)).setCell ⟨w.heap.size + 1 + 1, 3, none⟩ (.slice (some ⟨x.gb, 0, none⟩) x.b.bs.length x.cb)).setCell ⟨w.heap.size + 1 + 1, 4, none⟩ (.slice (some ⟨x.gl, 0, none⟩) x.b.ls.length x.cl)).setCell ⟨w.heap.size + 1 + 1, 5, none⟩ (.slice (some ⟨x.gt, 0, none⟩) x.b.ts.length x.ct)).setCell ⟨w.heap.size + 1 + 1, 6, none⟩ (.int .i64 x.b.lot)).setCell ⟨w.heap.size + 1, 0, none⟩ (.int .i64 f)).setCell ⟨w.heap.size + 1, 1, none⟩ (.slice (some ⟨x.ga, 0, none⟩) x.b.ac.length x.ca)).setCell ⟨w.heap.size + 1, 2, none⟩ (.slice (some ⟨x.gi, 0, none⟩) x.b.ic.length x.ci)).setCell ⟨w.heap.size + 1, 3, none⟩ (.slice (some ⟨x.gb, 0, none⟩) x.b.bs.length x.cb)).setCell ⟨w.heap.size + 1, 4, none⟩ (.slice (some ⟨x.gl, 0, none⟩) x.b.ls.length x.cl)).setCell ⟨w.heap.size + 1, 5, none⟩ (.slice (some ⟨x.gt, 0, none⟩) x.b.ts.length x.ct)).setCell ⟨w.heap.size + 1, 6, none⟩ (.int .i64 x.b.lot)) w.heap.size (w.heap.size + 1) (.int .i64 f) (.slice (some ⟨x.ga, 0, none⟩) x.b.ac.length x.ca) (.slice (some ⟨x.gi, 0, none⟩) x.b.ic.length x.ci) (.slice (some ⟨x.gb, 0, none⟩) x.b.bs.length x.cb) (.slice (some ⟨x.gl, 0, none⟩) x.b.ls.length x.cl) (.slice (some ⟨x.gt, 0, none⟩) x.b.ts.length x.ct) (.int .i64 x.b.lot) := by
  have s1 := K2.set1 (.slice (some ⟨x.ga, 0, none⟩) x.b.ac.length x.ca)
  have s2 := s1.1.set2 (.slice (some ⟨x.gi, 0, none⟩) x.b.ic.length x.ci)
  have s3 := s2.1.set3 (.slice (some ⟨x.gb, 0, none⟩) x.b.bs.length x.cb)
  have s4 := s3.1.set4 (.slice (some ⟨x.gl, 0, none⟩) x.b.ls.length x.cl)
  have s5 := s4.1.set5 (.slice (some ⟨x.gt, 0, none⟩) x.b.ts.length x.ct)
  have s6 := s5.1.set6 (.int .i64 x.b.lot)
  have G2 := (grow_grow (grow_grow (grow_grow (grow_grow (grow_grow s1.2 s2.2) s3.2) s4.2) s5.2) s6.2)
  have L1 := K1.kept G2 (by simp)
  have t0 := L1.set0 (.int .i64 f)
  have t1 := t0.1.set1 (.slice (some ⟨x.ga, 0, none⟩) x.b.ac.length x.ca)
  have t2 := t1.1.set2 (.slice (some ⟨x.gi, 0, none⟩) x.b.ic.length x.ci)
  have t3 := t2.1.set3 (.slice (some ⟨x.gb, 0, none⟩) x.b.bs.length x.cb)
  have t4 := t3.1.set4 (.slice (some ⟨x.gl, 0, none⟩) x.b.ls.length x.cl)
  have t5 := t4.1.set5 (.slice (some ⟨x.gt, 0, none⟩) x.b.ts.length x.ct)
  have t6 := t5.1.set6 (.int .i64 x.b.lot)
  have G1 := (grow_grow (grow_grow (grow_grow (grow_grow (grow_grow (grow_grow t0.2 t1.2) t2.2) t3.2) t4.2) t5.2) t6.2)
  refine ⟨((O.kept G2 (fun g e => by cases e; omega)).kept G1 (fun g e => by cases e; omega)).rebase (by omega), grow_low (grow_low B G2 ⟨by omega, B.size⟩) G1 ⟨by omega, Nat.le_trans B.size G2.size⟩, t6.1⟩
set_option maxRecDepth 100000 in
set_option maxHeartbeats 32000000 in
theorem toSv (w : World) (f : Int) (y : Ix) (h : RdI w y) (hs : Small y.b) :
    Calls Tryz.prog 8 #[.agg #[.int .i64 f, .slice y.aa y.b.ac.length y.ca, .slice y.ai y.b.ic.length y.ci, .slice y.ab y.b.bs.length y.cb, .slice y.al y.b.ls.length y.cl, .slice y.ats y.b.ts.length y.ct, .int .i64 y.b.lot]] w fun e w' => ∃ x : Bx, x.b = y.b ∧ e = .returned (.agg #[.int .i64 f, .slice (some ⟨x.ga, 0, none⟩) x.b.ac.length x.ca, .slice (some ⟨x.gi, 0, none⟩) x.b.ic.length x.ci, .slice (some ⟨x.gb, 0, none⟩) x.b.bs.length x.cb, .slice (some ⟨x.gl, 0, none⟩) x.b.ls.length x.cl, .slice (some ⟨x.gt, 0, none⟩) x.b.ts.length x.ct, .int .i64 x.b.lot]) ∧ Ow w' w.heap.size x ∧ Below w.heap.size w w' := by
  have b1 := one_more w (.cells #[.int .i64 f, .slice y.aa y.b.ac.length y.ca, .slice y.ai y.b.ic.length y.ci, .slice y.ab y.b.bs.length y.cb, .slice y.al y.b.ls.length y.cl, .slice y.ats y.b.ts.length y.ct, .int .i64 y.b.lot] 30)
  have b2 := one_more (w.alloc (.cells #[.int .i64 f, .slice y.aa y.b.ac.length y.ca, .slice y.ai y.b.ic.length y.ci, .slice y.ab y.b.bs.length y.cb, .slice y.al y.b.ls.length y.cl, .slice y.ats y.b.ts.length y.ct, .int .i64 y.b.lot] 30)) (.cells #[.int .i64 0, .slice none 0 0, .slice none 0 0, .slice none 0 0, .slice none 0 0, .slice none 0 0, .int .i64 0] 42)
  have b3 := one_more ((w.alloc (.cells #[.int .i64 f, .slice y.aa y.b.ac.length y.ca, .slice y.ai y.b.ic.length y.ci, .slice y.ab y.b.bs.length y.cb, .slice y.al y.b.ls.length y.cl, .slice y.ats y.b.ts.length y.ct, .int .i64 y.b.lot] 30)).alloc (.cells #[.int .i64 0, .slice none 0 0, .slice none 0 0, .slice none 0 0, .slice none 0 0, .slice none 0 0, .int .i64 0] 42)) (.cells #[.int .i64 f, .slice none 0 0, .slice none 0 0, .slice none 0 0, .slice none 0 0, .slice none 0 0, .int .i64 0] 42)
  have I3 := hide (((Si.made w f y 30).step b2).step b3)
  have K1 := hide ((Bx7.made (w := w.alloc (.cells #[.int .i64 f, .slice y.aa y.b.ac.length y.ca, .slice y.ai y.b.ic.length y.ci, .slice y.ab y.b.bs.length y.cb, .slice y.al y.b.ls.length y.cl, .slice y.ats y.b.ts.length y.ct, .int .i64 y.b.lot] 30)) (base := w.heap.size) (g := w.heap.size + 1) (.int .i64 0) (.slice none 0 0) (.slice none 0 0) (.slice none 0 0) (.slice none 0 0) (.slice none 0 0) (.int .i64 0) (by simp) (by simp)).below b3 (by simp))
  have K2 := hide (Bx7.made (w := ((w.alloc (.cells #[.int .i64 f, .slice y.aa y.b.ac.length y.ca, .slice y.ai y.b.ic.length y.ci, .slice y.ab y.b.bs.length y.cb, .slice y.al y.b.ls.length y.cl, .slice y.ats y.b.ts.length y.ct, .int .i64 y.b.lot] 30)).alloc (.cells #[.int .i64 0, .slice none 0 0, .slice none 0 0, .slice none 0 0, .slice none 0 0, .slice none 0 0, .int .i64 0] 42))) (base := w.heap.size) (g := w.heap.size + 2) (.int .i64 f) (.slice none 0 0) (.slice none 0 0) (.slice none 0 0) (.slice none 0 0) (.slice none 0 0) (.int .i64 0) (by simp; omega) (by simp))
  have B3 := hide ((b1.trans (b2.mono (by simp))).trans (b3.mono (by simp; omega)))
  have s3 : (((w.alloc (.cells #[.int .i64 f, .slice y.aa y.b.ac.length y.ca, .slice y.ai y.b.ic.length y.ci, .slice y.ab y.b.bs.length y.cb, .slice y.al y.b.ls.length y.cl, .slice y.ats y.b.ts.length y.ct, .int .i64 y.b.lot] 30)).alloc (.cells #[.int .i64 0, .slice none 0 0, .slice none 0 0, .slice none 0 0, .slice none 0 0, .slice none 0 0, .int .i64 0] 42)).alloc (.cells #[.int .i64 f, .slice none 0 0, .slice none 0 0, .slice none 0 0, .slice none 0 0, .slice none 0 0, .int .i64 0] 42)).heap.size = w.heap.size + 3 := by simp
  have R3 := hide (h.below (unhide B3))
  have c0 := (Si.made w f y 30).f
  have d0 := (unhide I3).c0
  have d1 := (unhide I3).c1
  have d2 := (unhide I3).c2
  have d3 := (unhide I3).c3
  have d4 := (unhide I3).c4
  have d5 := (unhide I3).c5
  clear b1 b2 b3 h
  go_enter Tryz.func8, Tryz.ntmps8
  go_wp2_with fail
  clear c0 d0 d1 d2 d3 d4 d5
  generalize (((w.alloc (.cells #[.int .i64 f, .slice y.aa y.b.ac.length y.ca, .slice y.ai y.b.ic.length y.ci, .slice y.ab y.b.bs.length y.cb, .slice y.al y.b.ls.length y.cl, .slice y.ats y.b.ts.length y.ct, .int .i64 y.b.lot] 30)).alloc (.cells #[.int .i64 0, .slice none 0 0, .slice none 0 0, .slice none 0 0, .slice none 0 0, .slice none 0 0, .int .i64 0] 42)).alloc (.cells #[.int .i64 f, .slice none 0 0, .slice none 0 0, .slice none 0 0, .slice none 0 0, .slice none 0 0, .int .i64 0] 42)) = W at *
  refine (toB W y (unhide R3) hs).mono ?_
  rintro e u ⟨x, hx, rfl, ox, bb⟩
  have us := bb.size
  replace K1 := hide ((unhide K1).below bb (by omega))
  replace K2 := hide ((unhide K2).below bb (by omega))
  have B4 := hide ((unhide B3).trans (bb.mono (by omega)))
  have OX := hide ox
  have HX := hide hx
  clear bb ox hx I3 R3 B3
  have f0 := (unhide K1).free 0
  have f1 := (unhide K1).free 1
  have f2 := (unhide K1).free 2
  have f3 := (unhide K1).free 3
  have f4 := (unhide K1).free 4
  have f5 := (unhide K1).free 5
  have f6 := (unhide K1).free 6
  have h0 := (unhide K2).free 0
  have h1 := (unhide K2).free 1
  have h2 := (unhide K2).free 2
  have h3 := (unhide K2).free 3
  have h4 := (unhide K2).free 4
  have h5 := (unhide K2).free 5
  have h6 := (unhide K2).free 6
  have p0 := (unhide K2).c0
  have p1 := (unhide K2).c1
  have p2 := (unhide K2).c2
  have p3 := (unhide K2).c3
  have p4 := (unhide K2).c4
  have p5 := (unhide K2).c5
  have p6 := (unhide K2).c6
  have q0 := (unhide K1).c0
  have q1 := (unhide K1).c1
  have q2 := (unhide K1).c2
  have q3 := (unhide K1).c3
  have q4 := (unhide K1).c4
  have q5 := (unhide K1).c5
  have q6 := (unhide K1).c6
  have FIN := hide (fin7 (unhide B4) (unhide K1) (unhide K2) (unhide OX) f us s3)
  clear K1 K2 B4 OX
  go_wp2
  clear f0 f1 f2 f3 f4 f5 f6 h0 h1 h2 h3 h4 h5 h6 p0 p1 p2 p3 p4 p5 p6 q0 q1 q2 q3 q4 q5 q6
  generalize (((((((((((((u).setCell ⟨w.heap.size + 1 + 1, 1, none⟩ (.slice (some ⟨x.ga, 0, none⟩) x.b.ac.length x.ca)).setCell ⟨w.heap.size + 1 + 1, 2, none⟩ (.slice (some ⟨x.gi, 0, none⟩) x.b.ic.length x.ci)).setCell ⟨w.heap.size + 1 + 1, 3, none⟩ (.slice (some ⟨x.gb, 0, none⟩) x.b.bs.length x.cb)).setCell ⟨w.heap.size + 1 + 1, 4, none⟩ (.slice (some ⟨x.gl, 0, none⟩) x.b.ls.length x.cl)).setCell ⟨w.heap.size + 1 + 1, 5, none⟩ (.slice (some ⟨x.gt, 0, none⟩) x.b.ts.length x.ct)).setCell ⟨w.heap.size + 1 + 1, 6, none⟩ (.int .i64 x.b.lot)).setCell ⟨w.heap.size + 1, 0, none⟩ (.int .i64 f)).setCell ⟨w.heap.size + 1, 1, none⟩ (.slice (some ⟨x.ga, 0, none⟩) x.b.ac.length x.ca)).setCell ⟨w.heap.size + 1, 2, none⟩ (.slice (some ⟨x.gi, 0, none⟩) x.b.ic.length x.ci)).setCell ⟨w.heap.size + 1, 3, none⟩ (.slice (some ⟨x.gb, 0, none⟩) x.b.bs.length x.cb)).setCell ⟨w.heap.size + 1, 4, none⟩ (.slice (some ⟨x.gl, 0, none⟩) x.b.ls.length x.cl)).setCell ⟨w.heap.size + 1, 5, none⟩ (.slice (some ⟨x.gt, 0, none⟩) x.b.ts.length x.ct)).setCell ⟨w.heap.size + 1, 6, none⟩ (.int .i64 x.b.lot) = U at *
  have r0 := (unhide FIN).2.2.c0
  have r1 := (unhide FIN).2.2.c1
  have r2 := (unhide FIN).2.2.c2
  have r3 := (unhide FIN).2.2.c3
  have r4 := (unhide FIN).2.2.c4
  have r5 := (unhide FIN).2.2.c5
  have r6 := (unhide FIN).2.2.c6
  refine bodyPost_ret (v := .agg #[.int .i64 f, .slice (some ⟨x.ga, 0, none⟩) x.b.ac.length x.ca, .slice (some ⟨x.gi, 0, none⟩) x.b.ic.length x.ci, .slice (some ⟨x.gb, 0, none⟩) x.b.bs.length x.cb, .slice (some ⟨x.gl, 0, none⟩) x.b.ls.length x.cl, .slice (some ⟨x.gt, 0, none⟩) x.b.ts.length x.ct, .int .i64 x.b.lot]) (by simp [results, Tryz.results8, go_sem, r0, r1, r2, r3, r4, r5, r6]) rfl ?_
  exact ⟨x, unhide HX, rfl, (unhide FIN).1, (unhide FIN).2.1⟩
set_option maxRecDepth 100000 in
set_option maxHeartbeats 32000000 in
theorem eqSv (w : World) (f : Int) (x y : Bx) (hb : y.b = x.b) (hx : Rd w x) (hy : Rd w y) :
    Calls Tryz.prog 10 #[.agg #[.int .i64 f, .slice (some ⟨x.ga, 0, none⟩) x.b.ac.length x.ca, .slice (some ⟨x.gi, 0, none⟩) x.b.ic.length x.ci, .slice (some ⟨x.gb, 0, none⟩) x.b.bs.length x.cb, .slice (some ⟨x.gl, 0, none⟩) x.b.ls.length x.cl, .slice (some ⟨x.gt, 0, none⟩) x.b.ts.length x.ct, .int .i64 x.b.lot], .agg #[.int .i64 f, .slice (some ⟨y.ga, 0, none⟩) y.b.ac.length y.ca, .slice (some ⟨y.gi, 0, none⟩) y.b.ic.length y.ci, .slice (some ⟨y.gb, 0, none⟩) y.b.bs.length y.cb, .slice (some ⟨y.gl, 0, none⟩) y.b.ls.length y.cl, .slice (some ⟨y.gt, 0, none⟩) y.b.ts.length y.ct, .int .i64 y.b.lot]] w fun e w' => e = .returned (.bool true) ∧ Below w.heap.size w w' := by
  have S1 := hide (Sv.made hx (Below.refl _ w) f 42)
  have b2 := one_more (w.alloc (.cells #[.int .i64 f, .slice (some ⟨x.ga, 0, none⟩) x.b.ac.length x.ca, .slice (some ⟨x.gi, 0, none⟩) x.b.ic.length x.ci, .slice (some ⟨x.gb, 0, none⟩) x.b.bs.length x.cb, .slice (some ⟨x.gl, 0, none⟩) x.b.ls.length x.cl, .slice (some ⟨x.gt, 0, none⟩) x.b.ts.length x.ct, .int .i64 x.b.lot] 42)) (.cells #[.int .i64 f, .slice (some ⟨y.ga, 0, none⟩) y.b.ac.length y.ca, .slice (some ⟨y.gi, 0, none⟩) y.b.ic.length y.ci, .slice (some ⟨y.gb, 0, none⟩) y.b.bs.length y.cb, .slice (some ⟨y.gl, 0, none⟩) y.b.ls.length y.cl, .slice (some ⟨y.gt, 0, none⟩) y.b.ts.length y.ct, .int .i64 y.b.lot] 42)
  have S2 := hide ((unhide S1).step b2)
  have t2 := Sv.made (hy.alloc (.cells #[.int .i64 f, .slice (some ⟨x.ga, 0, none⟩) x.b.ac.length x.ca, .slice (some ⟨x.gi, 0, none⟩) x.b.ic.length x.ci, .slice (some ⟨x.gb, 0, none⟩) x.b.bs.length x.cb, .slice (some ⟨x.gl, 0, none⟩) x.b.ls.length x.cl, .slice (some ⟨x.gt, 0, none⟩) x.b.ts.length x.ct, .int .i64 x.b.lot] 42)) (unhide S1).b f 42
  rw [show (w.alloc (.cells #[.int .i64 f, .slice (some ⟨x.ga, 0, none⟩) x.b.ac.length x.ca, .slice (some ⟨x.gi, 0, none⟩) x.b.ic.length x.ci, .slice (some ⟨x.gb, 0, none⟩) x.b.bs.length x.cb, .slice (some ⟨x.gl, 0, none⟩) x.b.ls.length x.cl, .slice (some ⟨x.gt, 0, none⟩) x.b.ts.length x.ct, .int .i64 x.b.lot] 42)).heap.size = w.heap.size + 1 by simp] at t2
  have T2 := hide t2
  clear b2 t2
  have c0 := (unhide S2).f
  have c1 := (unhide S2).c0
  have c2 := (unhide S2).c1
  have c3 := (unhide S2).c2
  have c4 := (unhide S2).c3
  have c5 := (unhide S2).c4
  have c6 := (unhide S2).c5
  have d0 := (unhide T2).f
  have d1 := (unhide T2).c0
  have d2 := (unhide T2).c1
  have d3 := (unhide T2).c2
  have d4 := (unhide T2).c3
  have d5 := (unhide T2).c4
  have d6 := (unhide T2).c5
  have ff : (f != f) = false := by simp
  have HB := hide hb
  clear hx hy hb
  go_enter Tryz.func10, Tryz.ntmps10
  go_wp2_with fail
  refine (eqB _ x y (unhide HB) (unhide S2).r (unhide T2).r).mono ?_
  rintro e u ⟨rfl, bb⟩
  have B2 := hide ((unhide S2).b.trans (bb.mono (unhide S2).b.size))
  clear bb
  go_wp2
  go_ret
  exact ⟨rfl, unhide B2⟩
end Go.Proofs.YtagmnociflkhcaaGreat.SaveH16
namespace Go.Proofs.YtagmnociflkhcaaGreat.LawV16
open Go.ChangeShapes Go.WideShapes Go.ChangeAt Go.RowKit BMem Bks BHelp BkEq SaveH16
open IBalsFit (one_more)
structure Ls (w W : World) (g : Nat) (f : Int) (y : Ix) : Prop where
  r : RdI W y
  c : Si W g f y
  b : Below w.heap.size w W
theorem Ls.step {w W W' : World} {g : Nat} {f : Int} {y : Ix} (h : Ls w W g f y) (k : Below W.heap.size W W') : Ls w W' g f y := ⟨h.r.below (k), h.c.step k, h.b.trans (k.mono h.b.size)⟩
theorem Ls.start {w : World} {f : Int} {y : Ix} (h : RdI w y) (e : TypeId) : Ls w (w.alloc (.cells #[.int .i64 f, .slice y.aa y.b.ac.length y.ca, .slice y.ai y.b.ic.length y.ci, .slice y.ab y.b.bs.length y.cb, .slice y.al y.b.ls.length y.cl, .slice y.ats y.b.ts.length y.ct, .int .i64 y.b.lot] e)) w.heap.size f y := ⟨h.below (one_more _ _), Si.made w f y e, one_more _ _⟩
theorem two_cells {H : Type} {enc : TypeId × Value → H} {P : Program} {w : World} {base : Nat} {spare : Nat → Bool} {held : Bool} {e : TypeId} {f0 f1 : Field} {fuel : Nat} {cs : List Value} {x : DataW H × List MemPlace}
    (he : P.underlying e = some (.struct #[f0, f1])) (hc : (P.cellsOf e == 7 && P.cellsOf f0.type == 1 && P.cellsOf f1.type == 6 && f0.offset == 0 && f1.offset == 1) = true)
    (h : DataW.trod enc P w base spare held fuel e cs = some x) : ∃ v0 v1 v2 v3 v4 v5 v6 k x0 x1, cs = [v0, v1, v2, v3, v4, v5, v6] ∧ DataW.trod enc P w base spare held k f0.type [v0] = some x0 ∧ DataW.trod enc P w base spare held k f1.type [v1, v2, v3, v4, v5, v6] = some x1 := by
  simp at hc
  obtain ⟨⟨⟨⟨ce, k0⟩, k1⟩, o0⟩, o1⟩ := hc
  obtain ⟨xs, k, _, _, hl, hlen, hf⟩ := DataW.trod_struct he h
  rw [ce] at hl
  match xs, hlen, cs, hl with
  | [y0, y1], _, [v0, v1, v2, v3, v4, v5, v6], _ =>
    have g0 := hf 0 f0 rfl
    have g1 := hf 1 f1 rfl
    simp [o0, k0] at g0
    simp [o1, k1] at g1
    exact ⟨v0, v1, v2, v3, v4, v5, v6, k, _, _, rfl, g0, g1⟩
set_option maxRecDepth 100000 in
theorem open_save {H : Type} {enc : TypeId × Value → H} {w : World} {base b0' : Nat} {spare : Nat → Bool} {held : Bool} {r : Reach} {v : Value} {d : DataW H} {p : List MemPlace}
    (hv : Value.okWide Tryz.prog w r b0' 30 v) (h : DataW.Trod enc Tryz.prog w base spare held 30 v d p) : ∃ (f : Int) (y : Ix), v = .agg #[.int .i64 f, .slice y.aa y.b.ac.length y.ca, .slice y.ai y.b.ic.length y.ci, .slice y.ab y.b.bs.length y.cb, .slice y.al y.b.ls.length y.cl, .slice y.ats y.b.ts.length y.ct, .int .i64 y.b.lot] ∧ RdI w y ∧ Fits y.b := by
  obtain ⟨cs, rfl, _⟩ := okWide_struct Tryz.underlying30 hv
  obtain ⟨fuel, hf⟩ := h
  obtain ⟨u, v0, v1, v2, v3, v4, v5, k', xu, xb, e, gu, gb⟩ := two_cells (cs := cs.toList) Tryz.underlying30 (by kernel_rfl) (by simpa [Value.cells] using hf)
  obtain ⟨q0, q1, q2, q3, q4, q5, k, x0, x1, x2, x3, x4, x5, eq, g0, g1, g2, g3, g4, g5⟩ := OpensB.struct_cells Tryz.underlying28 (by kernel_rfl) gb
  simp only [List.cons.injEq, and_true] at eq
  obtain ⟨rfl, rfl, rfl, rfl, rfl, rfl⟩ := eq
  obtain ⟨a0, l0, c0, rfl⟩ := OpensB.slice_cell Tryz.underlying22 g0
  obtain ⟨a1, l1, c1, rfl⟩ := OpensB.slice_cell Tryz.underlying23 g1
  obtain ⟨a2, l2, c2, rfl⟩ := OpensB.slice_cell Tryz.underlying24 g2
  obtain ⟨a3, l3, c3, rfl⟩ := OpensB.slice_cell Tryz.underlying25 g3
  obtain ⟨a4, l4, c4, rfl⟩ := OpensB.slice_cell Tryz.underlying26 g4
  obtain ⟨z, q, _⟩ := DataW.trod_int Tryz.underlying3 g5
  simp at q
  subst q
  obtain ⟨f, q, _⟩ := DataW.trod_int Tryz.underlying3 gu
  simp at q
  subst q
  obtain ⟨p0, rfl, m0, r0⟩ := Opens.open_pairs Tryz.underlying22 Tryz.underlying150 (by kernel_rfl) Tryz.underlying3 (a := a0) (len := l0) (cap := c0) g0
  obtain ⟨p1, rfl, m1, r1⟩ := Opens.open_pairs Tryz.underlying23 Tryz.underlying152 (by kernel_rfl) Tryz.underlying3 (a := a1) (len := l1) (cap := c1) g1
  obtain ⟨p2, rfl, m2, r2⟩ := Opens3.open_triples Tryz.underlying24 Tryz.underlying154 (by kernel_rfl) Tryz.underlying3 (a := a2) (len := l2) (cap := c2) g2
  obtain ⟨p3, rfl, m3, r3⟩ := Opens5.open_rows Tryz.underlying25 Tryz.underlying156 (by kernel_rfl) Tryz.underlying3 (a := a3) (len := l3) (cap := c3) g3
  obtain ⟨p4, rfl, m4, r4⟩ := Opens8.open_rows Tryz.underlying26 Tryz.underlying158 (by kernel_rfl) Tryz.underlying3 (a := a4) (len := l4) (cap := c4) g4
  exact ⟨f, ⟨a0, c0, a1, c1, a2, c2, a3, c3, a4, c4, ⟨p0, p1, p2, p3, p4, z⟩⟩, congrArg Value.agg (Array.ext' e), ⟨r0, r1, r2, r3, r4⟩, ⟨m0, m1, m2, m3, m4⟩⟩
end Go.Proofs.YtagmnociflkhcaaGreat.LawV16
namespace Go.Proofs.YtagmnociflkhcaaGreat.IBooksOk
open Go.ChangeShapes Go.WideShapes Go.ChangeAt Go.RowKit BMem Bks IRead IHave ITrade ILists IBalsFit ILotsFit ITradesFit
open Lots (Says says_of NoOk)
set_option maxRecDepth 100000 in
set_option maxHeartbeats 32000000 in
theorem iBooksOk (w : World) (x : Bx) (b : Bool) (h : Rd w x) (hb : Says b (Ok x.b)) :
    Calls Tryz.prog 156 #[.agg #[.slice (some ⟨x.ga, 0, none⟩) x.b.ac.length x.ca, .slice (some ⟨x.gi, 0, none⟩) x.b.ic.length x.ci, .slice (some ⟨x.gb, 0, none⟩) x.b.bs.length x.cb, .slice (some ⟨x.gl, 0, none⟩) x.b.ls.length x.cl, .slice (some ⟨x.gt, 0, none⟩) x.b.ts.length x.ct, .int .i64 x.b.lot]] w fun e w' => e = .returned (.bool b) ∧ Below w.heap.size w w' := by
  have T := hide hb
  have S0 := hide (St.start h 40)
  obtain ⟨b0, h0⟩ := says_of (Lists x.b)
  obtain ⟨b1, h1⟩ := says_of (BalsFit x.b)
  obtain ⟨b2, h2⟩ := says_of (LotsFit x.b)
  obtain ⟨b3, h3⟩ := says_of (TradesFit x.b)
  have H0 := hide h0
  have H1 := hide h1
  have H2 := hide h2
  have H3 := hide h3
  clear hb h h0 h1 h2 h3
  go_enter Tryz.func156, Tryz.ntmps156
  go_wp2_with fail
  refine (iLists _ x b0 (unhide S0).r (unhide H0)).mono ?_
  rintro e w1 ⟨rfl, bb⟩
  have S1 := hide ((unhide S0).step bb)
  clear bb
  obtain ⟨c0, c1, c2, c3, c4, c5⟩ := (unhide S1).c
  cases b0
  · have F := hide ((unhide T).not (fun hh => (unhide H0).no hh.1))
    clear T
    go_wp2
    go_ret
    exact ⟨by rw [unhide F]; rfl, (unhide S1).b⟩
  go_wp2_with fail
  refine (iBalsFit _ x b1 (unhide S1).r (unhide H0).yes (unhide H1)).mono ?_
  rintro e w2 ⟨rfl, bb⟩
  have S2 := hide ((unhide S1).step bb)
  clear bb
  clear c0 c1 c2 c3 c4 c5
  obtain ⟨c0, c1, c2, c3, c4, c5⟩ := (unhide S2).c
  cases b1
  · have F := hide ((unhide T).not (fun hh => (unhide H1).no hh.2.1))
    clear T
    go_wp2
    go_ret
    exact ⟨by rw [unhide F]; rfl, (unhide S2).b⟩
  go_wp2_with fail
  refine (iLotsFit _ x b2 (unhide S2).r (unhide H0).yes (unhide H2)).mono ?_
  rintro e w3 ⟨rfl, bb⟩
  have S3 := hide ((unhide S2).step bb)
  clear bb
  clear c0 c1 c2 c3 c4 c5
  obtain ⟨c0, c1, c2, c3, c4, c5⟩ := (unhide S3).c
  cases b2
  · have F := hide ((unhide T).not (fun hh => (unhide H2).no hh.2.2.1))
    clear T
    go_wp2
    go_ret
    exact ⟨by rw [unhide F]; rfl, (unhide S3).b⟩
  go_wp2_with fail
  refine (iTradesFit _ x b3 (unhide S3).r (unhide H0).yes (unhide H3)).mono ?_
  rintro e w4 ⟨rfl, bb⟩
  have S4 := hide ((unhide S3).step bb)
  clear bb
  clear c0 c1 c2 c3 c4 c5
  obtain ⟨c0, c1, c2, c3, c4, c5⟩ := (unhide S4).c
  cases b3
  · have F := hide ((unhide T).not (fun hh => (unhide H3).no hh.2.2.2))
    clear T
    go_wp2
    go_ret
    exact ⟨by rw [unhide F]; rfl, (unhide S4).b⟩
  have F := hide ((unhide T).of ⟨(unhide H0).yes, (unhide H1).yes, (unhide H2).yes, (unhide H3).yes⟩)
  clear T
  go_wp2
  go_ret
  exact ⟨by rw [unhide F]; rfl, (unhide S4).b⟩
end Go.Proofs.YtagmnociflkhcaaGreat.IBooksOk
namespace Go.Proofs.YtagmnociflkhcaaGreat.IPack13
open Go.ChangeShapes Go.WideShapes Go.ChangeAt Go.RowKit BMem Bks SPuts11 SNums13 SPack13
open IBalsFit (St one_more)
open IRead (enters)
open Lots (Says says_of)
open SPut11 (lit0)
theorem me_fits (v : Value) (w : World) : (Go.method 351 40 v "loop.example/g00110/impl.fits").run Tryz.prog w = .ok (154, v) w := by kernel_rfl
theorem me_nums (v : Value) (w : World) : (Go.method 351 40 v "loop.example/g00110/impl.numbers").run Tryz.prog w = .ok (155, v) w := by kernel_rfl
theorem en_fits (args : Array Value) (u : World) : (callFunc 154 args).run Tryz.prog u = .ok (.enter 154 args) u := enters Tryz.func154 (by kernel_rfl) rfl _ _
theorem en_nums (args : Array Value) (u : World) : (callFunc 155 args).run Tryz.prog u = .ok (.enter 155 args) u := enters Tryz.func155 (by kernel_rfl) rfl _ _
set_option maxRecDepth 100000 in
theorem fitsB (w : World) (x : Bx) (b : Bool) (h : Rd w x) (hb : Says b (Ok x.b)) :
    Calls Tryz.prog 154 #[.agg #[.slice (some ⟨x.ga, 0, none⟩) x.b.ac.length x.ca, .slice (some ⟨x.gi, 0, none⟩) x.b.ic.length x.ci, .slice (some ⟨x.gb, 0, none⟩) x.b.bs.length x.cb, .slice (some ⟨x.gl, 0, none⟩) x.b.ls.length x.cl, .slice (some ⟨x.gt, 0, none⟩) x.b.ts.length x.ct, .int .i64 x.b.lot]] w fun e w' => e = .returned (.bool b) ∧ Below w.heap.size w w' := by
  have S0 := hide (St.start h 40)
  have HB := hide hb
  clear h hb
  obtain ⟨c0, c1, c2, c3, c4, c5⟩ := (unhide S0).c
  go_enter Tryz.func154, Tryz.ntmps154
  go_wp2_with fail
  refine (IBooksOk.iBooksOk _ x b (unhide S0).r (unhide HB)).mono ?_
  rintro e u ⟨rfl, bb⟩
  have S1 := hide ((unhide S0).step bb)
  clear bb
  go_wp2
  go_ret
  exact ⟨rfl, (unhide S1).b⟩
set_option maxRecDepth 100000 in
theorem packedB (w : World) (x : Bx) (b : Bool) (h : Rd w x) (hb : Says b (Ok x.b)) :
    Calls Tryz.prog 65 #[.iface 40 (.agg #[.slice (some ⟨x.ga, 0, none⟩) x.b.ac.length x.ca, .slice (some ⟨x.gi, 0, none⟩) x.b.ic.length x.ci, .slice (some ⟨x.gb, 0, none⟩) x.b.bs.length x.cb, .slice (some ⟨x.gl, 0, none⟩) x.b.ls.length x.cl, .slice (some ⟨x.gt, 0, none⟩) x.b.ts.length x.ct, .int .i64 x.b.lot])] w fun e w' => ∃ a c, e = .returned (.tuple #[.slice a (packB x.b).length c, .bool b]) ∧ VOB.Ob w' w.heap.size a (packB x.b).length c (packB x.b) ∧ Below w.heap.size w w' := by
  have m1 := me_fits
  have m2 := en_fits
  have m3 := me_nums
  have m4 := en_nums
  have FR := hide (fitsB w x b h hb)
  have R := hide h
  have HB := hide hb
  clear h hb
  cases b with
  | false =>
    have e : packB x.b = [] := if_neg (fun r => by have := (unhide HB).of r; simp at this)
    rw [e]
    clear e
    go_enter Tryz.func65, Tryz.ntmps65
    go_wp2_with fail
    refine (unhide FR).mono ?_
    rintro e u1 ⟨rfl, bb⟩
    have B1 := hide bb
    have O1 := hide (lit0 u1 w.heap.size bb.size rfl)
    clear bb
    go_wp2
    go_ret2
    exact ⟨_, 0, rfl, VOB.Ob.of (unhide O1), (unhide B1).alloc (unhide B1).size _⟩
  | true =>
    have ok := (unhide HB).yes
    have e : packB x.b = numsB (nums x.b) := if_pos ok
    rw [e]
    have li := ok.1
    have SN := hide (fun u h => INums13.iNums u x h (fun i hi => (li.2.2.1.2 i hi).2.2.1))
    have SP := hide (fun u g c hg hr => IPuts11.iPutNums u g c (nums x.b) (by have := nums_len li; omega) hg hr (nums_get li))
    clear e ok li
    generalize nums x.b = ys at *
    go_enter Tryz.func65, Tryz.ntmps65
    go_wp2_with fail
    refine (unhide FR).mono ?_
    rintro e u1 ⟨rfl, bb⟩
    have B1 := hide bb
    have R1 := hide ((unhide R).below bb)
    clear bb
    go_wp2_with fail
    refine ((unhide SN) u1 (unhide R1)).mono ?_
    rintro e u2 ⟨g2, k2, rfl, o2, bb⟩
    have B2 := hide ((unhide B1).trans (bb.mono (unhide B1).size))
    have O2 := hide o2
    clear o2 bb
    go_wp2_with fail
    refine ((unhide SP) u2 g2 k2 (unhide O2).lt.2 (unhide O2).at).mono ?_
    rintro e u3 ⟨a3, k3, rfl, o3, bb⟩
    have B3 := hide ((unhide B2).trans (bb.mono (unhide B2).size))
    have O3 := hide (o3.mono (unhide B2).size)
    clear bb o3
    go_wp2
    go_ret2
    exact ⟨a3, k3, rfl, unhide O3, unhide B3⟩
set_option maxRecDepth 100000 in
theorem iBooksPack (w : World) (x : Bx) (b : Bool) (h : Rd w x) (hb : Says b (Ok x.b)) :
    Calls Tryz.prog 27 #[.agg #[.slice (some ⟨x.ga, 0, none⟩) x.b.ac.length x.ca, .slice (some ⟨x.gi, 0, none⟩) x.b.ic.length x.ci, .slice (some ⟨x.gb, 0, none⟩) x.b.bs.length x.cb, .slice (some ⟨x.gl, 0, none⟩) x.b.ls.length x.cl, .slice (some ⟨x.gt, 0, none⟩) x.b.ts.length x.ct, .int .i64 x.b.lot]] w fun e w' => ∃ a c, e = .returned (.tuple #[.slice a (packB x.b).length c, .bool b]) ∧ VOB.Ob w' w.heap.size a (packB x.b).length c (packB x.b) ∧ Below w.heap.size w w' := by
  have S0 := hide (St.start h 40)
  have PK := hide (fun u h => packedB u x b h hb)
  clear h hb
  obtain ⟨c0, c1, c2, c3, c4, c5⟩ := (unhide S0).c
  go_enter Tryz.func27, Tryz.ntmps27
  go_wp2_with fail
  refine ((unhide PK) _ (unhide S0).r).mono ?_
  rintro e u ⟨a, c, rfl, o, bb⟩
  have S1 := hide ((unhide S0).step bb)
  have O1 := hide (o.mono (Nat.le_of_lt (unhide S0).s))
  clear bb o c0 c1 c2 c3 c4 c5
  go_wp2
  go_ret2
  exact ⟨a, c, rfl, unhide O1, (unhide S1).b⟩
end Go.Proofs.YtagmnociflkhcaaGreat.IPack13
namespace Go.Proofs.YtagmnociflkhcaaGreat.ISave16
open Go.ChangeShapes Go.WideShapes Go.ChangeAt Go.RowKit BMem Bks IBalsFit SNums13 SSave16
open Lots (Says)
open SPack13 (packB)
open SPut11 (numB AtO)
open SSeal11 (sealB)
open SegP15 (okS)
theorem pack_some {b : Bk} (h : Ok b) : (packB b).length ≠ 0 := by
  unfold SPack13.packB
  rw [if_pos h]
  unfold SPuts11.numsB
  rw [if_pos (fun i hi => (SPack13.nums_in h.1 ((nums b).getD i 0) (by simp [List.getD, hi])).1)]
  have e : nums b = (b.ac.length : Int) :: (nums b).tail := by simp [nums]
  rw [e, List.flatMap_cons, List.length_append]
  have := ISeal11.numB_some b.ac.length
  omega
theorem of_bytesO (w : World) (base : Nat) (a : Option Addr) (n c : Nat) (xs : List Int) (h : VOB.Ob w base a n c xs) : (convert 63 9 (.slice a n c)).run Tryz.prog w = .ok (.string (strOfNums xs)) w := by
  have hl := h.len
  subst hl
  rcases h.either with ⟨rfl, _, rfl⟩ | ⟨g, rfl, o⟩
  · have c0 : c = 0 := by
      rcases h.2 with ⟨h1, _⟩ | ⟨g, c', cur, h1, _⟩
      · simpa using h1
      · simp at h1
    subst c0
    simp [convert, go_sem, Conv.bytesToString]
    first | done | rfl | kernel_rfl
  · exact Conv15.of_bytes w g c xs o.at
set_option maxRecDepth 100000 in
set_option maxHeartbeats 32000000 in
theorem iSavePack (w : World) (x : Bx) (f : Int) (b : Bool) (h : Rd w x) (hb : Says b (Ok x.b)) :
    Calls Tryz.prog 9 #[.agg #[.int .i64 f, .slice (some ⟨x.ga, 0, none⟩) x.b.ac.length x.ca, .slice (some ⟨x.gi, 0, none⟩) x.b.ic.length x.ci, .slice (some ⟨x.gb, 0, none⟩) x.b.bs.length x.cb, .slice (some ⟨x.gl, 0, none⟩) x.b.ls.length x.cl, .slice (some ⟨x.gt, 0, none⟩) x.b.ts.length x.ct, .int .i64 x.b.lot]] w fun e w' => e = .returned (.tuple #[.string (saveD f x.b b).1, .bool (saveD f x.b b).2]) ∧ Below w.heap.size w w' := by
  have S0 := hide (Sv.made h (Below.refl _ w) f 42)
  have PK := hide (fun u h => IPack13.iBooksPack u x b h hb)
  have PL := hide (pack_len2 x.b)
  have PS := hide (show b = true → (packB x.b).length ≠ 0 from fun e => pack_some (by rw [e] at hb; exact hb.yes))
  have BI := hide (body_in (f := f) x.b)
  have RE := hide (show saveD f x.b b = if b = true ∧ okS f = true ∧ (bodyS f x.b).length ≤ 9000 then (strOfNums (sealB (bodyS f x.b)), true) else (ByteArray.empty, false) from rfl)
  have BE := hide (show bodyS f x.b = numB f ++ packB x.b from rfl)
  generalize saveD f x.b b = rr at *
  generalize bodyS f x.b = bo at *
  generalize packB x.b = pk at *
  clear h hb
  have g0 := (unhide S0).f
  have g1 := (unhide S0).c0
  have g2 := (unhide S0).c1
  have g3 := (unhide S0).c2
  have g4 := (unhide S0).c3
  have g5 := (unhide S0).c4
  have g6 := (unhide S0).c5
  go_enter Tryz.func9, Tryz.ntmps9
  go_wp2_with fail
  refine (unhide PK _ (unhide S0).r).mono ?_
  rintro e u ⟨ap, cp, rfl, op, bb⟩
  have S1 := hide ((unhide S0).step bb)
  have OP := hide op
  have us := bb.size
  clear bb op g0 g1 g2 g3 g4 g5 g6 S0 PK
  have g0 := (unhide S1).f
  cases b with
  | false =>
    have E := hide (show rr = (ByteArray.empty, false) by rw [unhide RE, if_neg (fun h => by simp at h)])
    clear RE
    go_wp2
    go_ret2
    rw [unhide E]
    exact ⟨rfl, (unhide S1).b⟩
  | true =>
    cases sk : okS f with
    | false =>
      have E := hide (show rr = (ByteArray.empty, false) by rw [unhide RE, if_neg (fun h => by rw [sk] at h; simp at h)])
      have SK := hide sk
      clear RE sk
      go_wp2_with fail
      refine (ISg15.iSegOk _ f false (unhide SK)).mono ?_
      rintro e u ⟨rfl, rfl⟩
      go_wp2
      go_ret2
      rw [unhide E]
      exact ⟨rfl, (unhide S1).b⟩
    | true =>
      have SK := hide sk
      have f19 : 0 ≤ f ∧ f ≤ 19 := of_decide_eq_true sk
      have RR := hide (show rr = if bo.length ≤ 9000 then (strOfNums (sealB bo), true) else (ByteArray.empty, false) by
        rw [unhide RE]
        by_cases q : bo.length ≤ 9000
        · rw [if_pos ⟨rfl, sk, q⟩, if_pos q]
        · rw [if_neg (fun h => q h.2.2), if_neg q])
      clear RE sk
      go_wp2_with fail
      refine (ISg15.iSegOk _ f true (unhide SK)).mono ?_
      rintro e u ⟨rfl, rfl⟩
      have NP := (unhide PS) trivial
      obtain ⟨gp, rfl, OP1⟩ : ∃ g, ap = some ⟨g, 0, none⟩ ∧ Hid (ByteH.Own u w.heap.size g pk.length cp pk) := by
        rcases (unhide OP).either with ⟨_, h, _⟩ | ⟨g, h, o⟩
        · exact absurd h NP
        · exact ⟨g, h, hide (o.mono (by simp))⟩
      clear OP PS us
      have n9 := SPut11.numB_nine (x := f) (by omega)
      have pl := unhide PL
      have PL9 := hide (show pk.length ≤ 900000 ∧ (numB f).length ≤ 9 from ⟨pl, n9⟩)
      obtain ⟨fn, hfn⟩ : ∃ fn : Nat, f = (fn : Int) := ⟨f.toNat, by omega⟩
      have NF := hide (show (numB f).length ≠ 0 by rw [hfn]; exact ISeal11.numB_some fn)
      have f63 : f ≤ 9223372036854775807 := by omega
      clear hfn f19 PL
      go_wp2_with fail
      refine (IPut11.iPutNum _ f f63).mono ?_
      rintro e u1 ⟨a1, c1, rfl, o1, b1⟩
      have S2 := hide ((unhide S1).step b1)
      have gpl := (unhide OP1).lt
      have OP2 := hide ((unhide OP1).below b1 gpl.2)
      have us1 := b1.size
      have wl := (unhide S1).b.size
      obtain ⟨g1, rfl, O1⟩ : ∃ g, a1 = some ⟨g, 0, none⟩ ∧ Hid (ByteH.Own u1 u.heap.size g (numB f).length c1 (numB f)) := by
        rcases o1.either with ⟨_, h, _⟩ | ⟨g, h, o⟩
        · exact absurd h (unhide NF)
        · exact ⟨g, h, hide o⟩
      have lg := (unhide O1).lt
      clear o1 b1 g0 OP1 S1
      have CB := hide (Con16.iConcat2 (u1.alloc (.cells #[.slice (some ⟨g1, 0, none⟩) (numB f).length c1, .slice (some ⟨gp, 0, none⟩) pk.length cp] 63)) u1.heap.size g1 0 (numB f).length c1 gp 0 pk.length cp (numB f) pk rfl rfl (by omega) (by simp) (by simp; omega) (by simp; omega) (ConB11.AtO.below (AtO.of (unhide O1).at) (one_more u1 _) lg.2) (ConB11.AtO.below (AtO.of (unhide OP2).at) (one_more u1 _) (by omega)) (by simp) (by simp))
      have B2 := hide (show Below w.heap.size w (u1.alloc (.cells #[.slice (some ⟨g1, 0, none⟩) (numB f).length c1, .slice (some ⟨gp, 0, none⟩) pk.length cp] 63)) from (unhide S2).b.trans ((one_more u1 _).mono (by omega)))
      clear n9 pl S2 OP2 O1
      go_wp2_with fail
      generalize u1.alloc (.cells #[.slice (some ⟨g1, 0, none⟩) (numB f).length c1, .slice (some ⟨gp, 0, none⟩) pk.length cp] 63) = V at *
      refine (unhide CB).mono ?_
      rintro e u2 ⟨v2, rfl, o2, b2⟩
      rw [← unhide BE] at o2
      obtain ⟨a2, c2, rfl, q2⟩ := o2.ob
      have L2 := hide (show bo.length ≠ 0 by rw [unhide BE, List.length_append]; have := unhide NF; omega)
      have L3 := hide (show bo.length ≤ 900009 by rw [unhide BE, List.length_append]; have := unhide PL9; omega)
      obtain ⟨g2, rfl, Q2⟩ : ∃ g, a2 = some ⟨g, 0, none⟩ ∧ Hid (ByteH.Own u2 V.heap.size g bo.length c2 bo) := by
        rcases q2.either with ⟨_, h, _⟩ | ⟨g, h, o⟩
        · exact absurd h (unhide L2)
        · exact ⟨g, h, hide o⟩
      have B3 := hide ((unhide B2).trans (b2.mono (unhide B2).size))
      have SE := hide (ISeal11.iSeal u2 g2 c2 bo (by have := unhide L3; omega) (unhide Q2).lt.2 (fun i hi => ⟨(unhide Q2).at i hi, (unhide BI) f63 i hi⟩))
      clear o2 q2 b2 CB B2 L2 L3 BE BI NF Q2 PL9
      go_wp2_with fail
      refine (unhide SE).mono ?_
      rintro e u3 ⟨a3, c3, rfl, o3, b3⟩
      have B4 := hide ((unhide B3).trans (b3.mono (unhide B3).size))
      have CV := fun w' (k : Below u3.heap.size u3 w') => of_bytesO w' _ a3 _ c3 (sealB bo) (o3.step k)
      have CB := CV u3 (Below.refl _ _)
      clear o3 b3 SE B3 CV
      by_cases q : bo.length ≤ 9000
      · have E := hide (show rr = (strOfNums (sealB bo), true) by rw [unhide RR, if_pos q])
        have qd : decide (bo.length ≤ 9000) = true := decide_eq_true q
        clear RR q
        generalize strOfNums (sealB bo) = st at *
        go_wp2
        go_ret2
        rw [unhide E]
        exact ⟨rfl, unhide B4⟩
      · have E := hide (show rr = (ByteArray.empty, false) by rw [unhide RR, if_neg q])
        have qd : decide (bo.length ≤ 9000) = false := decide_eq_false q
        have SE : sealB bo = [] := if_neg q
        have CE : strOfNums (sealB bo) = ByteArray.empty := by rw [SE]; first | rfl | kernel_rfl
        rw [CE] at CB
        clear RR q SE CE
        go_wp2
        go_ret2
        rw [unhide E]
        exact ⟨rfl, unhide B4⟩
end Go.Proofs.YtagmnociflkhcaaGreat.ISave16
