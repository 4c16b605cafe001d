/- Texts of one proof, one behind the other: Lay, Sort3, Out, Post, Entry, ILotsFit, SLots, SBooksOk, SPack13, IBooksOk, IPack13. -/
import Derived.Test.YtefcigaalgfmiaaGreatRows
import Derived.Test.YtefcigaalgfmiaaGreatPG1
import Derived.Test.YtefcigaalgfmiaaGreatPG2
import Derived.Test.YtefcigaalgfmiaaGreatPG3
import Derived.Shelf.SlGeneric
import Derived.Shelf.SlSortCmp.WholeK
import Derived.Ground.SlsfProg
import Derived.WideKeyEntry
import Derived.Deep.RegionHeld3
import Derived.Handy
set_option linter.unusedVariables false
set_option linter.unusedSimpArgs false
namespace Go.Proofs
open Go.Shelf
def Tryz.sortL_ren : Go.Shelf.Ren := ⟨fun | 6 => 127 | 15 => 139 | 14 => 138 | 28 => 152 | 29 => 153 | 20 => 144 | 21 => 145 | 22 => 146 | 23 => 147 | 24 => 148 | 25 => 149 | 26 => 150 | 27 => 151 | 46 => 158 | 47 => 159 | 48 => 160 | 49 => 161 | 50 => 162 | 57 => 163 | n => n, fun | 22 => 35 | 24 => 85 | 25 => 156 | 3 => 3 | 39 => 119 | 0 => 0 | 53 => 127 | 55 => 174 | 4 => 4 | 46 => 167 | 45 => 166 | 50 => 111 | 5 => 5 | 9 => 9 | 66 => 179 | 70 => 183 | 76 => 185 | 77 => 186 | n => n, fun | n => n⟩
theorem Tryz.sortL : Go.Proofs.SlLaysF0.n6 Tryz.prog Tryz.sortL_ren := {
  mixed := by kernel_rfl
  f6 := ⟨Tryz.f127.name, by decide, Tryz.func127.trans (congrArg some (by kernel_rfl))⟩
  f14 := ⟨Tryz.f138.name, by decide, Tryz.func138.trans (congrArg some (by kernel_rfl))⟩
  f15 := Tryz.func139.trans (congrArg some (by kernel_rfl))
  f20 := ⟨Tryz.f144.name, by decide, Tryz.func144.trans (congrArg some (by kernel_rfl))⟩
  f21 := ⟨Tryz.f145.name, by decide, Tryz.func145.trans (congrArg some (by kernel_rfl))⟩
  f22 := ⟨Tryz.f146.name, by decide, Tryz.func146.trans (congrArg some (by kernel_rfl))⟩
  f23 := ⟨Tryz.f147.name, by decide, Tryz.func147.trans (congrArg some (by kernel_rfl))⟩
  f24 := ⟨Tryz.f148.name, by decide, Tryz.func148.trans (congrArg some (by kernel_rfl))⟩
  f25 := ⟨Tryz.f149.name, by decide, Tryz.func149.trans (congrArg some (by kernel_rfl))⟩
  f26 := ⟨Tryz.f150.name, by decide, Tryz.func150.trans (congrArg some (by kernel_rfl))⟩
  f27 := ⟨Tryz.f151.name, by decide, Tryz.func151.trans (congrArg some (by kernel_rfl))⟩
  f28 := Tryz.func152.trans (congrArg some (by kernel_rfl))
  f29 := Tryz.func153.trans (congrArg some (by kernel_rfl))
  f46 := ⟨Tryz.f158.name, by decide, Tryz.func158.trans (congrArg some (by kernel_rfl))⟩
  f47 := Tryz.func159.trans (congrArg some (by kernel_rfl))
  f48 := Tryz.func160.trans (congrArg some (by kernel_rfl))
  f49 := ⟨Tryz.f161.name, by decide, Tryz.func161.trans (congrArg some (by kernel_rfl))⟩
  f50 := ⟨Tryz.f162.name, by decide, Tryz.func162.trans (congrArg some (by kernel_rfl))⟩
  f57 := ⟨Tryz.f163.name, by decide, Tryz.func163.trans (congrArg some (by kernel_rfl))⟩
  t0 := Tryz.underlying0
  a0 := Tryz.isAgg0
  z0 := Tryz.sizeOf0
  v0 := Tryz.zeroValue0
  t3 := Tryz.underlying3
  a3 := Tryz.isAgg3
  z3 := Tryz.sizeOf3
  v3 := Tryz.zeroValue3
  t4 := Tryz.underlying4
  a4 := Tryz.isAgg4
  z4 := Tryz.sizeOf4
  v4 := Tryz.zeroValue4
  t5 := Tryz.underlying5
  a5 := Tryz.isAgg5
  z5 := Tryz.sizeOf5
  v5 := Tryz.zeroValue5
  t9 := Tryz.underlying9
  a9 := Tryz.isAgg9
  z9 := Tryz.sizeOf9
  v9 := Tryz.zeroValue9
  t22 := Tryz.underlying35
  a22 := Tryz.isAgg35
  z22 := Tryz.sizeOf35
  v22 := Tryz.zeroValue35
  t25 := Tryz.underlying156
  a25 := Tryz.isAgg156
  z25 := Tryz.sizeOf156
  v25 := Tryz.zeroValue156
  t39 := Tryz.underlying119
  a39 := Tryz.isAgg119
  z39 := Tryz.sizeOf119
  v39 := Tryz.zeroValue119
  t45 := Tryz.underlying166
  a45 := Tryz.isAgg166
  z45 := Tryz.sizeOf166
  v45 := Tryz.zeroValue166
  t46 := Tryz.underlying167
  a46 := Tryz.isAgg167
  z46 := Tryz.sizeOf167
  v46 := Tryz.zeroValue167
  t50 := Tryz.underlying111
  a50 := Tryz.isAgg111
  z50 := Tryz.sizeOf111
  v50 := Tryz.zeroValue111
  t53 := Tryz.underlying127
  a53 := Tryz.isAgg127
  z53 := Tryz.sizeOf127
  v53 := Tryz.zeroValue127
  t55 := Tryz.underlying174
  a55 := Tryz.isAgg174
  z55 := Tryz.sizeOf174
  v55 := Tryz.zeroValue174
  t66 := Tryz.underlying179
  a66 := Tryz.isAgg179
  z66 := Tryz.sizeOf179
  v66 := Tryz.zeroValue179
  t70 := Tryz.underlying183
  a70 := Tryz.isAgg183
  z70 := Tryz.sizeOf183
  v70 := Tryz.zeroValue183
  t76 := Tryz.underlying185
  a76 := Tryz.isAgg185
  z76 := Tryz.sizeOf185
  v76 := Tryz.zeroValue185
  t77 := Tryz.underlying186
  a77 := Tryz.isAgg186
  z77 := Tryz.sizeOf186
  v77 := Tryz.zeroValue186 }
end Go.Proofs
namespace Go.Proofs.YtefcigaalgfmiaaGreat.Sort3
open Go.ChangeShapes Go.WideShapes Go.ChangeAt Go.RowKit Bals Triples Cmp
open Go.Sort (putRow putCells mapBlock onCells Holds SWO PermIn SortedIn grow flatK get_flatK size_flatK HoldsK)
/-- A triple as the memory holds it. -/
def enc (p : T3) : List Value := [.int .i64 p.1, .int .i64 p.2.1, .int .i64 p.2.2]
def cf (p q : T3) : Int := cmpK p.1 p.2.1 q.1 q.2.1
theorem lt_iff (p q : T3) : ltOf cf p q = true ↔ Bef p q := by
  unfold ltOf cf Bef
  rw [decide_eq_true_eq, cmpK_lt]
theorem lt_not (p q : T3) : ltOf cf p q = false ↔ ¬ Bef p q := by
  rw [← lt_iff]
  simp
theorem swo : SWO (ltOf cf) where
  irrefl x := by rw [lt_not]; exact bef_irrefl x
  trans x y z h1 h2 := by rw [lt_iff] at *; exact bef_trans h1 h2
  ntrans x y z h1 h2 := by rw [lt_not] at *; unfold Bef at *; omega
theorem flat_flatK (d : Array T3) : (flatK enc 3 d).toList = flat3 d.toList := by
  apply List.ext_getElem?
  intro t
  by_cases ht : t < d.size * 3
  · have e1 : (flatK enc 3 d).toList[t]? = some ((enc d[t / 3]!)[t % 3]!) := by
      have := get_flatK enc 3 d t ht
      rw [getElem!_pos _ t (by simpa using ht)] at this
      simp only [Array.getElem?_toList]
      rw [Array.getElem?_eq_getElem (by simpa using ht), this]
    have hq : t / 3 < d.size := by omega
    have e2 : el3 d.toList (t / 3) = d[t / 3]! := by
      rw [getElem!_pos d (t / 3) hq]
      simp [el3, List.getD, hq]
    obtain ⟨f0, f1, f2⟩ := flat3_get d.toList (t / 3) (by simpa using hq)
    rw [e2] at f0 f1 f2
    rw [e1]
    rcases (show t % 3 = 0 ∨ t % 3 = 1 ∨ t % 3 = 2 by omega) with e | e | e
    · rw [show t / 3 * 3 = t by omega] at f0
      rw [f0, e]; rfl
    · rw [show t / 3 * 3 + 1 = t by omega] at f1
      rw [f1, e]; rfl
    · rw [show t / 3 * 3 + 2 = t by omega] at f2
      rw [f2, e]; rfl
  · rw [List.getElem?_eq_none (by simp; omega), List.getElem?_eq_none (by rw [flat3_len]; simp; omega)]
theorem sw_heap (w : World) (blk q : Nat) (d : Array T3) (os : Array Obj) : (sortWorldK enc 3 w blk 0 q d os).heap = (w.heap.modify blk (onCells (putCells id 0 (flatK enc 3 d)))) ++ os := rfl
theorem sw_other (w : World) (blk q : Nat) (d : Array T3) (os : Array Obj) (k : Nat) (hk : k < w.heap.size) (hne : k ≠ blk) : (sortWorldK enc 3 w blk 0 q d os).heap[k]? = w.heap[k]? := by
  rw [sw_heap, Array.getElem?_append_left (by simpa using hk), Array.getElem?_modify, if_neg (Ne.symm hne)]
theorem sw_same (w : World) (blk q : Nat) (d : Array T3) (os : Array Obj) (cur : Array Value) (e : TypeId) (fr : Nat × Nat) (h : w.heap[blk]? = some (.cells cur e fr)) : (sortWorldK enc 3 w blk 0 q d os).heap[blk]? = some (.cells (putCells id 0 (flatK enc 3 d) cur) e fr) := by
  have hb : blk < w.heap.size := (Array.getElem?_eq_some_iff.1 h).1
  rw [sw_heap, Array.getElem?_append_left (by simpa using hb), Array.getElem?_modify, if_pos rfl, h]
  rfl
theorem sw_below (w : World) (blk q : Nat) (d : Array T3) (os : Array Obj) (hb : blk < w.heap.size) : Below blk w (sortWorldK enc 3 w blk 0 q d os) := by
  refine ⟨rfl, rfl, rfl, ?_, fun k hk => ?_⟩
  · rw [sw_heap]; simp
  · exact sw_other w blk q d os k (by omega) (by omega)
theorem put_take (F cur : Array Value) (h : F.size ≤ cur.size) : (putCells id 0 F cur).toList.take F.size = F.toList := by
  apply List.ext_getElem?
  intro i
  by_cases hi : i < F.size
  · rw [List.getElem?_take, if_pos hi]
    have e1 : (putCells id 0 F cur).toList[i]? = some F[i]! := by
      simp [putCells, hi, show i < cur.size by omega]
    rw [e1, getElem!_pos F i hi]
    simp [hi]
  · rw [List.getElem?_take, if_neg hi, List.getElem?_eq_none (by simp; omega)]
theorem own_sorted (w : World) (base blk n cap q : Nat) (d : Array T3) (os : Array Obj) (ps : List T3) (hd : d.size = n) (h : Own3 85 w base blk n cap ps) :
    Own3 85 (sortWorldK enc 3 w blk 0 q d os) base blk n cap d.toList := by
  refine ⟨by rw [flat3_len]; simp [hd], ?_⟩
  rcases h.2 with ⟨z, _⟩ | ⟨g', c, cur, z, hb, hc, h1, h2, h3, h4⟩
  · simp at z
  · obtain ⟨rfl, rfl⟩ : blk = g' ∧ cap = c := by simpa using z
    refine Or.inr ⟨blk, cap, _, rfl, hb, sw_same w blk q d os cur 85 (0, 0) hc, h1, h2, by simpa [putCells] using h3, ?_⟩
    have := put_take (flatK enc 3 d) cur (by rw [size_flatK, hd, h3]; exact Nat.mul_le_mul_right 3 h1)
    rw [size_flatK, hd, flat_flatK] at this
    exact this
theorem holds_of (w : World) (base blk n cap : Nat) (ps : List T3) (h : Own3 85 w base blk n cap ps) : HoldsK enc 3 w blk 0 ps.toArray := by
  intro j hj
  have hl := h.len
  have hj' : j < n * 3 := by simpa [hl] using hj
  refine ⟨?_, by simpa using h.free (0 + j)⟩
  rw [Nat.zero_add]
  have e := World.ownsRow.cellAt h j hj'
  rw [e]
  have f := flat_flatK ps.toArray
  have g : flat3 ps = (flatK enc 3 ps.toArray).toList := by rw [f]
  rw [g, Array.getElem?_toList, Array.getElem?_eq_getElem hj, getElem!_pos _ j hj]
  rfl
set_option maxRecDepth 100000 in
theorem closure (x y : T3) (w : World) : Calls Tryz.prog 128 #[.agg #[.int .i64 x.1, .int .i64 x.2.1, .int .i64 x.2.2], .agg #[.int .i64 y.1, .int .i64 y.2.1, .int .i64 y.2.2]] w fun e w' => e = .returned (.int .i64 (cf x y)) ∧ ∃ q os, w' = grow (w.drewN q) os := by
  obtain ⟨a, i, p⟩ := x
  obtain ⟨b, j, q⟩ := y
  go_enter Tryz.func128, Tryz.ntmps128
  go_wp2_with fail
  refine (compareG a i b j _).mono ?_
  rintro e w1 ⟨rfl, n, os, rfl⟩
  go_wp2
  go_ret
  refine ⟨rfl, n, #[.cells #[.int .i64 a, .int .i64 i, .int .i64 p] 85] ++ #[.cells #[.int .i64 b, .int .i64 j, .int .i64 q] 85] ++ os, ?_⟩
  rw [Go.Sort.alloc_eq_grow, Go.Sort.alloc_eq_grow, Go.Sort.grow_grow]
  exact Go.Sort.grow_grow (w.drewN n) _ _
theorem cmpLays (blk size : Nat) (w : World) : CmpLays Tryz.prog 128 #[] enc 3 cf blk 0 size w := fun _ _ _ _ x y => closure x y _
/-- The library's sort at the program's comparison. -/
theorem sorts (w : World) (base blk n cap : Nat) (ps : List T3) (hn : n ≤ 1048576) (ho : Own3 85 w base blk n cap ps) :
    Calls Tryz.prog 127 #[.slice (some ⟨blk, 0, none⟩) n cap, .func (.func 128) #[] #[]] w fun e w' =>
      e = .returned (.tuple #[]) ∧ ∃ qs, qs.Perm ps ∧ qs.Pairwise (fun p q => ¬ Bef q p) ∧ Own3 85 w' base blk n cap qs ∧ Below blk w w' := by
  have hl := ho.len
  have hs : ps.toArray.size = n := by simpa using hl
  have eg : ∀ args w, (callFunc 128 args).run Tryz.prog w = .ok (.enter 128 args) w := enters_of Tryz.func128 (by kernel_rfl) rfl
  have hcon := AnyQ.slices_SortFunc Tryz.sortL 3 Tryz.isAgg85 Tryz.sizeOf85 enc (fun _ => rfl) (fun x v hv => by simp [enc] at hv; rcases hv with rfl | rfl | rfl <;> rfl) cf swo 128 #[] blk 0 cap ps.toArray w eg (cmpLays blk _ w) (holds_of w base blk n cap ps ho) ho.lt.2 (by rw [hs]; omega)
  change Calls Tryz.prog 127 _ _ _ at hcon
  rw [hs] at hcon
  refine hcon.mono ?_
  rintro e w' ⟨rfl, d', q, os, hp, hso, rfl⟩
  have hd : d'.size = n := hp.1.trans hs
  refine ⟨rfl, d'.toList, ?_, ?_, own_sorted w base blk n cap q d' os ps hd ho, sw_below w blk q d' os ho.lt.2⟩
  · have := hp.2.2
    rw [Array.extract_eq_self_of_le (by omega), Array.extract_eq_self_of_le (by omega)] at this
    simpa using this
  · rw [List.pairwise_iff_getElem]
    intro i j hi hj hij
    have hj' : j < d'.size := by simpa using hj
    have := hso i j (Nat.zero_le _) hij (by omega)
    rw [getElem!_pos d' j hj', getElem!_pos d' i (by omega), lt_not] at this
    simpa using this
end Go.Proofs.YtefcigaalgfmiaaGreat.Sort3
namespace Go.Proofs.YtefcigaalgfmiaaGreat.Out
open Go.ChangeShapes Go.WideShapes Go.ChangeAt Go.RowKit Bals Triples Cmp Tab Look Sort3
/-- The list so far has what has come already, each once. -/
def Coll (qs : List T3) (f : Int → Int → Int) (left : Int → Int → Bool) : Prop :=
  qs.Pairwise (fun p q => other p q) ∧ ∀ p : T3, p ∈ qs ↔ p.2.2 ≠ 0 ∧ f p.1 p.2.1 = p.2.2 ∧ Wf p.1 p.2.1 ∧ left p.1 p.2.1 = false
theorem coll_start {f : Int → Int → Int} {left : Int → Int → Bool} (h : ∀ a i, f a i ≠ 0 → left a i = true) : Coll [] f left := by
  refine ⟨List.Pairwise.nil, fun p => ⟨fun h => absurd h List.not_mem_nil, fun ⟨h1, h2, _, h3⟩ => ?_⟩⟩
  rw [h p.1 p.2.1 (by rw [h2]; exact h1)] at h3
  cases h3
theorem coll_zero {qs : List T3} {f : Int → Int → Int} {left left' : Int → Int → Bool} {a i : Int} (h : Coll qs f left) (hl : ∀ b j, Wf b j → left' b j = (left b j && !decide (b = a ∧ j = i))) (hz : f a i = 0) : Coll qs f left' := by
  refine ⟨h.1, fun p => ?_⟩
  rw [h.2 p]
  constructor
  · rintro ⟨h1, h2, h3, h4⟩
    exact ⟨h1, h2, h3, by rw [hl _ _ h3, h4]; rfl⟩
  · rintro ⟨h1, h2, h3, h4⟩
    refine ⟨h1, h2, h3, ?_⟩
    rw [hl _ _ h3] at h4
    by_cases e : p.1 = a ∧ p.2.1 = i
    · rw [e.1, e.2, hz] at h2
      exact absurd h2.symm h1
    · simpa [e] using h4
theorem coll_more {qs : List T3} {f : Int → Int → Int} {left left' : Int → Int → Bool} {a i : Int} (h : Coll qs f left) (hw : Wf a i) (hla : left a i = true) (hl : ∀ b j, Wf b j → left' b j = (left b j && !decide (b = a ∧ j = i))) (hz : f a i ≠ 0) : Coll (qs ++ [(a, i, f a i)]) f left' := by
  refine ⟨?_, fun p => ?_⟩
  · rw [List.pairwise_append]
    refine ⟨h.1, List.pairwise_singleton _ _, fun p hp q hq => ?_⟩
    rw [List.mem_singleton] at hq
    subst hq
    obtain ⟨_, _, _, h4⟩ := (h.2 p).1 hp
    unfold other
    show a ≠ p.1 ∨ i ≠ p.2.1
    refine Classical.byContradiction fun n => ?_
    have n1 : p.1 = a := Classical.byContradiction fun q => n (.inl (Ne.symm q))
    have n2 : p.2.1 = i := Classical.byContradiction fun q => n (.inr (Ne.symm q))
    rw [n1, n2, hla] at h4
    cases h4
  · rw [List.mem_append, List.mem_singleton, h.2 p]
    constructor
    · rintro (⟨h1, h2, h3, h4⟩ | rfl)
      · exact ⟨h1, h2, h3, by rw [hl _ _ h3, h4]; rfl⟩
      · exact ⟨hz, rfl, hw, by rw [hl _ _ hw]; simp⟩
    · rintro ⟨h1, h2, h3, h4⟩
      by_cases e : p.1 = a ∧ p.2.1 = i
      · obtain ⟨p1, p2, p3⟩ := p
        obtain ⟨rfl, rfl⟩ := e
        simp only at h2
        subst h2
        exact .inr rfl
      · rw [hl _ _ h3] at h4
        exact .inl ⟨h1, h2, h3, by simpa [e] using h4⟩
/-- All that has come, sorted, is the list of what is told. -/
theorem coll_end {qs rs : List T3} {f : Int → Int → Int} {left : Int → Int → Bool} (h : Coll qs f left) (hf : ∀ a i, f a i ≠ 0 → Wf a i) (hl : ∀ a i, Wf a i → left a i = false) (hp : rs.Perm qs) (hs : rs.Pairwise (fun p q => ¬ Bef q p)) : ListOf f rs := by
  have hd : rs.Pairwise (fun p q => other p q) := (hp.pairwise_iff (fun {a b} (o : other a b) => by unfold other at o ⊢; rcases o with o | o; exact .inl (Ne.symm o); exact .inr (Ne.symm o))).2 h.1
  have asc : rs.Pairwise Bef := by
    rw [List.pairwise_iff_getElem] at hs hd ⊢
    intro i j hi hj hij
    have h1 := hs i j hi hj hij
    have h2 := hd i j hi hj hij
    unfold other at h2
    unfold Bef at h1 ⊢
    omega
  have mem : ∀ p : T3, p ∈ rs ↔ p.2.2 ≠ 0 ∧ f p.1 p.2.1 = p.2.2 := fun p => by
    rw [hp.mem_iff, h.2 p]
    constructor
    · rintro ⟨h1, h2, _⟩
      exact ⟨h1, h2⟩
    · rintro ⟨h1, h2⟩
      have w := hf p.1 p.2.1 (by rw [h2]; exact h1)
      exact ⟨h1, h2, w, hl _ _ w⟩
  refine ⟨⟨asc, fun p hp' => ((mem p).1 hp').1⟩, fun a i => ?_⟩
  by_cases z : f a i = 0
  · rw [z]
    refine Classical.byContradiction fun nz => ?_
    have hm := val_mem rs a i nz
    have := ((mem _).1 hm).2
    simp only at this
    rw [z] at this
    exact nz this.symm
  · have hm := (mem (a, i, f a i)).2 ⟨z, rfl⟩
    exact val_of_mem rs asc _ hm
/-- A row of triples is no table and goes over none. -/
theorem own_apart {e : TypeId} {w : World} {base g n cap : Nat} {ps : List T3} {B r m : Nat} {f : Int → Int → Int} {left : Int → Int → Bool} {cnt : Nat} (h : Own3 e w base g n cap ps) (k : RTab w B r m f left cnt) : g ≠ B ∧ g ≠ r := by
  obtain ⟨D, lf, ⟨es, clock, since, seen, c0, hb, _, _, _, hr, _⟩, _⟩ := k
  rcases h.2 with ⟨z, _⟩ | ⟨g', c, cur, z, _, hc, _⟩
  · simp at z
  · obtain ⟨rfl, rfl⟩ : g = g' ∧ cap = c := by simpa using z
    constructor
    · intro e
      rw [e, hb] at hc
      simp at hc
    · intro e
      rw [e, hr] at hc
      simp at hc
theorem Tab.wf {w : World} {B n : Nat} {f : Int → Int → Int} (h : Tab w B n f) : ∀ a i, f a i ≠ 0 → Wf a i := by
  obtain ⟨D, _, h2⟩ := h
  exact h2.2
set_option maxRecDepth 100000 in
set_option maxHeartbeats 2000000 in
theorem iBals (w : World) (B n : Nat) (f : Int → Int → Int) (hn : n ≤ 100000) (ht : Tab w B n f) :
    Calls Tryz.prog 107 #[.map (some B)] w fun e w' => ∃ qs g c, ListOf f qs ∧ qs.length ≤ n ∧ e = .returned (.slice (some ⟨g, 0, none⟩) qs.length c) ∧ Own3 85 w' w.heap.size g qs.length c qs ∧ Below w.heap.size w w' := by
  have hB := ht.lt
  have HWF := hide (Tab.wf ht)
  have t1 := ht.kept (World.grownBy_alloc w (.cells #[] 85) none) (by simp)
  have HT := hide t1
  have O0 := hide (lit30 85 w w.heap.size (Nat.le_refl _))
  have B0 := hide (show Below w.heap.size w (w.alloc (.cells #[] 85)) from (Below.refl _ _).alloc (Nat.le_refl _) _)
  clear ht t1
  go_enter Tryz.func107, Tryz.ntmps107
  go_wp2_with (first | (at_range; refine wp_range _ rfl _ 138 rfl Tryz.underlying138 B n f rfl (unhide HT) ?_; intro w0 left0 cnt0 rt0 c0 lz0 g0 s0) | go_in)
  go_frame
  have RT := hide rt0
  have CO := hide (coll_start lz0)
  have O1 := hide ((unhide O0).kept g0 (by simp))
  have B1 := hide (next (unhide B0) (grownBy_below g0))
  clear rt0 lz0 g0 HT O0 B0
  simp only [World.size_alloc] at RT s0
  simp only [World.size_alloc]
  generalize hR : w.heap.size + 1 = R at *
  have hRl : w.heap.size < R := by omega
  go_loopw [3, 4, 5] (fun l _ _ wr => ∃ (qs : List T3) (g c : Nat) (left : Int → Int → Bool) (cnt : Nat), l = .slice (some ⟨g, 0, none⟩) qs.length c ∧ Hid (Own3 85 wr w.heap.size g qs.length c qs) ∧ Hid (RTab wr B R n f left cnt) ∧ Hid (Coll qs f left) ∧ qs.length + cnt ≤ n ∧ Hid (Below w.heap.size w wr)) (fun _ _ _ wr => wr.rangeLeft B R)
  case atStart => exact ⟨[], w.heap.size, 0, left0, cnt0, rfl, O1, RT, CO, by simpa using c0, B1⟩
  case round =>
    clear RT CO O1 B1 c0 s0
    obtain ⟨qs, g, c, left, cnt, rfl, HO, RT, CO, hc, HB⟩ := hrel
    go_wp2_with (first | (at_next; refine wp_next _ rfl _ rfl B R n f left cnt rfl (unhide RT) ?_ ?_) | go_in)
    · intro c0 l0
      have LZ := hide l0
      have sz := (unhide HO).lt
      clear l0
      go_wp2_with fail
      refine (sorts _ w.heap.size g qs.length c qs (by omega) (unhide HO)).mono ?_
      rintro e w2 ⟨rfl, rs, hp, hs, o2, b2⟩
      have LO := hide (coll_end (unhide CO) (unhide HWF) (unhide LZ) hp hs)
      have el : rs.length = qs.length := hp.length_eq
      have O2 := hide o2
      have B2 := hide ((unhide HB).trans (b2.mono sz.1))
      clear hp hs o2 b2
      go_wp2
      go_ret
      exact ⟨rs, g, c, unhide LO, by omega, by rw [el]; rfl, by rw [el]; exact unhide O2, unhide B2⟩
    · intro a i w2 left2 cnt2 wf wv la l2 rt2 lt2 g2 s2 hen
      have l2 : ∀ b j, Wf b j → left2 b j = (left b j && !decide (b = a ∧ j = i)) := fun b j h => by
        rw [l2 b j h]
        by_cases e1 : b = a <;> by_cases e2 : j = i <;> simp [e1, e2]
      have ap := own_apart (unhide HO) (unhide RT)
      have ML := hide (show w2.rangeLeft B R < wr.rangeLeft B R by rw [rt2.lt.2.2.2, (unhide RT).lt.2.2.2]; exact lt2)
      have RT2 := hide rt2
      have O2 := hide ((unhide HO).kept g2 (by simp; exact ap.2))
      have B2 := hide ((unhide HB).grown g2 (unhide HB).size (fun j hj => by cases hj; exact Nat.le_of_lt hRl))
      have CZ := hide (fun hz => coll_zero (unhide CO) l2 hz)
      have CM := hide (fun hz => coll_more (unhide CO) wf la l2 hz)
      clear rt2 l2 g2 s2 la wf wv CO
      generalize f a i = v at *
      have O3 := hide ((unhide O2).alloc (.cells #[.int .i64 a, .int .i64 i] 140))
      have R3 := hide ((unhide RT2).kept (World.grownBy_alloc w2 (.cells #[.int .i64 a, .int .i64 i] 140) none) (by simp) (by simp))
      have B3 := hide ((unhide B2).alloc (unhide B2).size (.cells #[.int .i64 a, .int .i64 i] 140))
      have M3 : World.rangeLeft (w2.alloc (.cells #[.int .i64 a, .int .i64 i] 140)) B R = w2.rangeLeft B R := by rw [(unhide R3).lt.2.2.2, (unhide RT2).lt.2.2.2]
      have M3 := hide M3
      have bs := (unhide B2).size
      by_cases v0 : v = 0
      · have CC := hide ((unhide CZ) v0)
        clear CZ CM
        subst v0
        go_wp2
        go_roundw
        case rel => exact ⟨qs, g, c, left2, cnt2, rfl, O3, R3, CC, by omega, B3⟩
        case measure => rw [unhide M3]; exact unhide ML
      · have CC := hide ((unhide CM) v0)
        have v0b : (v == 0) = false := by simpa using v0
        clear CZ CM
        have O4 := hide ((unhide O3).alloc (.cells #[.int .i64 a, .int .i64 i, .int .i64 v] 85))
        have R4 := hide ((unhide R3).kept (World.grownBy_alloc _ (.cells #[.int .i64 a, .int .i64 i, .int .i64 v] 85) none) (by simp) (by simp))
        have B4 := hide ((unhide B3).alloc (unhide B3).size (.cells #[.int .i64 a, .int .i64 i, .int .i64 v] 85))
        have V4 := hide (show Holds3 ((w2.alloc (.cells #[.int .i64 a, .int .i64 i] 140)).alloc (.cells #[.int .i64 a, .int .i64 i, .int .i64 v] 85)) (w2.heap.size + 1) 0 (a, i, v) from by unfold Holds3; simp)
        go_wp2_with (first | (at_builtin; refine BalApp.wp_app _ rfl _ _ rfl w.heap.size g qs.length c qs (w2.heap.size + 1) a i v rfl rfl (unhide O4) (unhide V4) (by omega) (by simp; omega) ?_; intro g5 c5 w5 o5 gr5 _) | go_in)
        have R5 := hide ((unhide R4).kept gr5 (by simp; exact Ne.symm ap.1) (by simp; exact Ne.symm ap.2))
        have M5 := hide (show w5.rangeLeft B R = w2.rangeLeft B R by rw [(unhide R5).lt.2.2.2, (unhide RT2).lt.2.2.2])
        have B5 := hide ((unhide B4).grown gr5 (by simp; omega) (fun j hj => by cases hj; exact (unhide HO).lt.1))
        have el : (qs ++ [(a, i, v)]).length = qs.length + 1 := by simp
        have O5 := hide o5
        clear o5 gr5
        go_wp2
        go_roundw
        case rel => exact ⟨qs ++ [(a, i, v)], g5, c5, left2, cnt2, by rw [el], hide (by rw [el]; exact unhide O5), R5, CC, by rw [el]; omega, B5⟩
        case measure => rw [unhide M5]; exact unhide ML
end Go.Proofs.YtefcigaalgfmiaaGreat.Out
namespace Go.Proofs.YtefcigaalgfmiaaGreat.Post
open Go.ChangeShapes Go.WideShapes Go.ChangeAt Go.RowKit Bals Triples Cmp SOk3 IOk3 Tab Look Out Legs
theorem look_run {w : World} {B n : Nat} {f : Int → Int → Int} (h : Tab w B n f) {a i : Int} (hw : Wf a i) : (Instr.lookup 138 (.map (some B)) (.agg #[.int .i64 a, .int .i64 i]) false).run Tryz.prog w = .ok (.int .i64 (f a i)) w := by
  obtain ⟨D, h1, h2, _⟩ := h
  obtain ⟨c, hrun, hat, _⟩ := h1.lookup_int law Tryz.underlying138 Tryz.underlying3 (zero _) (key_of hw)
  rw [h2 a i hw] at hat
  have : f a i = c := by simpa using hat
  rw [this]
  exact hrun
end Go.Proofs.YtefcigaalgfmiaaGreat.Post
namespace Go.Proofs.YtefcigaalgfmiaaGreat.Entry
open Go.ChangeShapes Go.WideShapes Go.ChangeAt Go.RowKit Bals Tab Post
open Go.MapKept Go.ChangeMaps Go.WideElems
open Go.WideMaps (KeyLaw)
set_option maxRecDepth 100000 in
theorem klaw : KeyLaw Tryz.prog 140 := deep_law_laid laidOut (m := 2) (by omega) row (by kernel_rfl) wide
theorem owns_block {H : Type} {P : Program} {k : TypeId} {R : Value → Option (DataW H × List MemPlace)} {w w' : World} {b n : Nat} {D : DataW H} (h : w.ownsMap P k R b n D) (e : w'.heap[b]? = w.heap[b]?) : w'.ownsMap P k R b n D := by
  obtain ⟨es, clock, hb, F, hs, hD⟩ := h
  exact ⟨es, clock, e.trans hb, F, hs, hD⟩
theorem tab_block {w w' : World} {B n : Nat} {f : Int → Int → Int} (h : Tab w B n f) (e : w'.heap[B]? = w.heap[B]?) : Tab w' B n f := by
  obtain ⟨D, h1, h2⟩ := h
  exact ⟨D, owns_block h1 e, h2⟩
theorem put_run {w : World} {B n : Nat} {f : Int → Int → Int} (h : Tab w B n f) (hn : n ≤ 1048576) {a i v : Int} (hw : Wf a i) (hv : (Lit.int .i64 v).wf = true) :
    ∃ w', (Instr.mapUpdate 138 (.map (some B)) (.agg #[.int .i64 a, .int .i64 i]) (.int .i64 v)).run Tryz.prog w = .ok () w' ∧ Tab w' B (n + 1) (upd f a i v) ∧ w.grownBy w' (some B) := by
  obtain ⟨D, h1, h2⟩ := h
  obtain ⟨w', r, o, g⟩ := h1.update law Tryz.underlying138 (by unfold maxLen; omega) (key_of hw) (plainElem_int Tryz.underlying3 hv)
  exact ⟨w', r, ⟨_, o, tells_put h2 (isMap_of h1) hw⟩, g⟩
set_option maxRecDepth 100000 in
theorem entry_run {w : World} {B n : Nat} {f : Int → Int → Int} (h : Tab w B n f) (hn : n ≤ 1048576) {a i : Int} (hw : Wf a i) :
    ∃ (v0 : Value) (st : Nat) (w2 : World), (Instr.mapEntry 138 (.map (some B)) (.agg #[.int .i64 a, .int .i64 i])).run Tryz.prog w = .ok (.tuple #[v0, goInt st]) w2 ∧ Tab w2 B (n + 1) f ∧ w.grownBy w2 (some B) ∧
      ∀ v : Int, (Lit.int .i64 v).wf = true → ∃ w3, (Instr.entryStore 138 (.map (some B)) (goInt st) (.int .i64 v)).run Tryz.prog w2 = .ok () w3 ∧ Tab w3 B (n + 1) (upd f a i v) ∧ w.grownBy w3 (some B) := by
  have h' := h
  obtain ⟨D, ⟨es, clock, hb, F, hs, hD⟩, hT⟩ := h
  obtain ⟨v0, st, es1, clock1, hE, hd, hS⟩ := entry_then_store klaw Tryz.underlying138 (z := .int .i64 0) zero hb F (key_of hw)
  refine ⟨v0, st, _, hE, ?_, ⟨rfl, rfl, rfl, by simp [setBlock], fun j _ hj => heap_setBlock_other hb _ (fun e => hj (by rw [e]))⟩, fun v hv => ?_⟩
  · rcases law.find w (key_of hw) es.toList F.keys with ⟨h1, h2⟩ | ⟨j, e0, h1, h2, h3⟩
    · have hE' : (Instr.mapEntry 138 (.map (some B)) (.agg #[.int .i64 a, .int .i64 i])).run Tryz.prog w = .ok (.tuple #[.int .i64 0, goInt clock]) (setBlock w B (.map (es.push ⟨.agg #[.int .i64 a, .int .i64 i], .int .i64 0, clock⟩) (clock + 1))) := by
        simp [Instr.mapEntry, run_underlying Tryz.underlying138, MapKept.run_getObj_map hb, law.check w false (key_of hw), h1, zero, MapKept.run_setObj_map _ hb, Result.andThen, setBlock]
      obtain ⟨w', r, t, g⟩ := put_run h' hn (v := 0) hw (by decide)
      have r' : (Instr.mapUpdate 138 (.map (some B)) (.agg #[.int .i64 a, .int .i64 i]) (.int .i64 0)).run Tryz.prog w = .ok () (setBlock w B (.map (es.push ⟨.agg #[.int .i64 a, .int .i64 i], .int .i64 0, clock⟩) (clock + 1))) := by
        simp [Instr.mapUpdate, run_underlying Tryz.underlying138, MapKept.run_getObj_map hb, law.check w false (key_of hw), h1, MapKept.run_setObj_map _ hb, Result.andThen, setBlock]
      have ew : setBlock w B (.map es1 clock1) = w' := by
        rw [hE] at hE'
        rw [r] at r'
        injection hE' with _ e1
        injection r' with _ e2
        rw [e1, e2]
      have fz : f a i = 0 := by
        have l1 := look_run h' hw
        have l2 : (Instr.lookup 138 (.map (some B)) (.agg #[.int .i64 a, .int .i64 i]) false).run Tryz.prog w = .ok (.int .i64 0) w := by
          simp [Instr.lookup, run_underlying Tryz.underlying138, MapKept.run_getObj_map hb, fun em => law.check w em (key_of hw), h1, zero, Result.andThen]
        rw [l1] at l2
        injection l2 with e1 _
        simpa using e1
      rw [ew]
      refine t.congr fun b j => ?_
      unfold upd
      by_cases e : b = a ∧ j = i
      · rw [if_pos e, e.1, e.2, fz]
      · rw [if_neg e]
    · have hj : es[j]? = some e0 := by simpa using h2
      have hsame : es.modify j (fun e => { e with key := .agg #[.int .i64 a, .int .i64 i] }) = es := by
        apply Array.ext'
        rw [Array.toList_modify, modify_eq_set _ _ _ _ h2]
        have : ({ e0 with key := .agg #[.int .i64 a, .int .i64 i] } : MapEntry) = e0 := by rw [← h3]
        rw [this]
        exact set_self _ _ _ h2
      have hE' : (Instr.mapEntry 138 (.map (some B)) (.agg #[.int .i64 a, .int .i64 i])).run Tryz.prog w = .ok (.tuple #[e0.val, goInt e0.born]) (setBlock w B (.map es clock)) := by
        simp [Instr.mapEntry, run_underlying Tryz.underlying138, MapKept.run_getObj_map hb, law.check w false (key_of hw), h1, hj, h3, law.stays w (key_of hw), hsame, MapKept.run_setObj_map _ hb, Result.andThen, setBlock]
      rw [hE] at hE'
      injection hE' with _ e1
      rw [e1]
      obtain ⟨D', o1, t1⟩ := tab_block (w' := setBlock w B (.map es clock)) h' (by rw [heap_setBlock_same hb]; exact hb.symm)
      exact ⟨D', o1.mono (by omega), t1⟩
  · obtain ⟨es', clock', s1, s2⟩ := hS _ (.int .i64 v) (heap_setBlock_same hb _)
    obtain ⟨w', r, t, g⟩ := put_run h' hn hw hv
    have ew : w' = setBlock w B (.map es' clock') := by
      rw [r] at s2
      injection s2
    refine ⟨_, s1, tab_block t ?_, ⟨rfl, rfl, rfl, by simp [setBlock], fun j _ hj => ?_⟩⟩
    · rw [ew, heap_setBlock_same hb, heap_setBlock_same (heap_setBlock_same hb _)]
    · rw [heap_setBlock_other (heap_setBlock_same hb _) _ (fun e => hj (by rw [e])), heap_setBlock_other hb _ (fun e => hj (by rw [e]))]
end Go.Proofs.YtefcigaalgfmiaaGreat.Entry
namespace Go.Proofs.YtefcigaalgfmiaaGreat.ILotsFit
open Go.ChangeShapes Go.WideShapes Go.ChangeAt Go.RowKit BMem Bks IRead IHave ITrade ILists IBalsFit
open Lots (Says says_of NoOk qtyOf)
open Bals (T3 el3 val sumI upd ListOf)
open Tup5 (T5 el5)
open Tab (Tab Wf wf_no wf_amt)
/-- The table behind k balances. -/
def leftB (b : Bk) (k : Nat) (a i : Int) : Int := if kindOf b.ac a = 1 ∧ kindOf b.ic i = 2 then val (b.bs.take k) a i else 0
/-- The table behind all balances and k lots. -/
def leftL (b : Bk) (k : Nat) (a i : Int) : Int := leftB b b.bs.length a i - qtyOf (b.ls.take k) a i
theorem leftB_zero (b : Bk) (a i : Int) : leftB b 0 a i = 0 := by
  unfold leftB
  split <;> rfl
theorem leftB_yes {b : Bk} (hr : Bals.Right b.bs) {k : Nat} (hk : k < b.bs.length) (h : kindOf b.ac (el3 b.bs k).1 = 1 ∧ kindOf b.ic (el3 b.bs k).2.1 = 2) (a i : Int) : leftB b (k + 1) a i = upd (leftB b k) (el3 b.bs k).1 (el3 b.bs k).2.1 (el3 b.bs k).2.2 a i := by
  unfold leftB
  rw [Look.val_take hr hk]
  unfold upd
  by_cases e : a = (el3 b.bs k).1 ∧ i = (el3 b.bs k).2.1
  · rw [if_pos e, if_pos e, e.1, e.2, if_pos h]
  · rw [if_neg e, if_neg e]
theorem leftB_no {b : Bk} (hr : Bals.Right b.bs) {k : Nat} (hk : k < b.bs.length) (h : ¬ (kindOf b.ac (el3 b.bs k).1 = 1 ∧ kindOf b.ic (el3 b.bs k).2.1 = 2)) (a i : Int) : leftB b (k + 1) a i = leftB b k a i := by
  unfold leftB
  by_cases q : kindOf b.ac a = 1 ∧ kindOf b.ic i = 2
  · rw [if_pos q, if_pos q, Look.val_take hr hk]
    unfold upd
    rw [if_neg (fun e => h (by rw [← e.1, ← e.2]; exact q))]
  · rw [if_neg q, if_neg q]
theorem leftL_zero (b : Bk) (a i : Int) : leftL b 0 a i = leftB b b.bs.length a i := by
  unfold leftL
  simp [qtyOf]
theorem leftL_next {b : Bk} {k : Nat} (hk : k < b.ls.length) (a i : Int) : leftL b (k + 1) a i = upd (leftL b k) (el5 b.ls k).1 (el5 b.ls k).2.1 (leftL b k (el5 b.ls k).1 (el5 b.ls k).2.1 - (el5 b.ls k).2.2.2.1) a i := by
  unfold upd
  by_cases e : a = (el5 b.ls k).1 ∧ i = (el5 b.ls k).2.1
  · rw [if_pos e]
    unfold leftL
    rw [Lots.qtyOf_next hk, if_pos ⟨e.1.symm, e.2.symm⟩, e.1, e.2]
    omega
  · rw [if_neg e]
    unfold leftL
    rw [Lots.qtyOf_next hk, if_neg (fun r => e ⟨r.1.symm, r.2.symm⟩)]
    omega
theorem leftL_all (b : Bk) (a i : Int) : leftL b b.ls.length a i = leftT b a i := by
  unfold leftL leftT leftB
  rw [List.take_length, List.take_length]
theorem leftL_bd {b : Bk} (hl : Lists b) (k : Nat) (a i : Int) : -3000000000000000 ≤ leftL b k a i ∧ leftL b k a i ≤ 3000000000000000 := by
  obtain ⟨_, _, hb, hL, _⟩ := hl
  have h1 := (hb.val_in a i).1
  have h2 := Lots.take_le (ps := b.ls) (fun p hp => by
    obtain ⟨j, _, hj, rfl⟩ := Lots.mem_take (ps := b.ls) (k := b.ls.length) (p := p) (by rw [List.take_length]; exact hp)
    exact (hL.2.1 j hj).1) k a i
  have h3 := Lots.qty_pos (a := a) (i := i) (b.ls.take k) (fun p hp => by
    obtain ⟨j, _, hj, rfl⟩ := Lots.mem_take hp
    exact (hL.2.1 j hj).1)
  have h4 := hL.2.2 a i
  unfold leftL leftB
  unfold Bals.Amt at h1
  rw [List.take_length]
  split <;> omega
/-- No balance is told of a table that holds nothing, and of none other. -/
theorem list_none {f : Int → Int → Int} {qs : List T3} (h : ListOf f qs) : qs.length = 0 ↔ ∀ a i, f a i = 0 := by
  constructor
  · intro e a i
    rw [← h.2 a i, List.length_eq_zero_iff.1 e]
    rfl
  · intro e
    cases qs with
    | nil => rfl
    | cons p r =>
      have := (h.1.mem p).1 List.mem_cons_self
      rw [h.2, e] at this
      exact absurd this.2.symm this.1
theorem below_of_drew {w w' : World} (h : Below w.drew.heap.size w.drew w') : Below w.heap.size w w' := ⟨h.os, h.tape, h.output, h.size, h.block⟩
theorem St.grown {w W W' : World} {x : Bx} {M : Nat} (H : Rd w x) (h : St w W x) (k : W.grownBy W' (some M)) (hM : w.heap.size < M) : St w W' x := by
  have b : Below w.heap.size w W' := h.b.grown k (Nat.le_of_lt h.s) (fun j e => by cases e; omega)
  have ne : some w.heap.size ≠ some M := fun e => by cases e; omega
  exact ⟨H.below b, ⟨k.cell h.c.c0 ne, k.cell h.c.c1 ne, k.cell h.c.c2 ne, k.cell h.c.c3 ne, k.cell h.c.c4 ne, k.cell h.c.c5 ne⟩, b, Nat.lt_of_lt_of_le h.s k.size⟩
set_option maxRecDepth 100000 in
set_option maxHeartbeats 4000000 in
theorem iLotsFit (w : World) (x : Bx) (b : Bool) (h : Rd w x) (hl : Lists x.b) (hb : Says b (LotsFit x.b)) :
    Calls Tryz.prog 94 #[.agg #[.slice (some ⟨x.ga, 0, none⟩) x.b.ac.length x.ca, .slice (some ⟨x.gi, 0, none⟩) x.b.ic.length x.ci, .slice (some ⟨x.gb, 0, none⟩) x.b.bs.length x.cb, .slice (some ⟨x.gl, 0, none⟩) x.b.ls.length x.cl, .slice (some ⟨x.gt, 0, none⟩) x.b.ts.length x.ct, .int .i64 x.b.lot]] w fun e w' => e = .returned (.bool b) ∧ Below w.heap.size w w' := by
  have T := hide hb
  have L := hide hl
  have H := hide h
  have S0 := hide ((St.start h 39).step (one_more _ (.map #[] 0)))
  have nb := h.nb
  have nl := h.nl
  have n160 : x.b.bs.length ≤ 160 := hl.2.2.1.1
  have n120 : x.b.ls.length ≤ 120 := hl.2.2.2.1.1
  have TM := hide (Tab.tab_made (w.alloc (.cells #[.slice (some ⟨x.ga, 0, none⟩) x.b.ac.length x.ca, .slice (some ⟨x.gi, 0, none⟩) x.b.ic.length x.ci, .slice (some ⟨x.gb, 0, none⟩) x.b.bs.length x.cb, .slice (some ⟨x.gl, 0, none⟩) x.b.ls.length x.cl, .slice (some ⟨x.gt, 0, none⟩) x.b.ts.length x.ct, .int .i64 x.b.lot] 39)))
  have hmm := @run_makeMap Tryz.prog
  clear hb hl h
  go_enter Tryz.func94, Tryz.ntmps94
  go_wp2
  go_loopw [12] (fun i wr => ∃ (k : Nat), k ≤ x.b.bs.length ∧ i = .int .i64 k ∧ St w wr x ∧ Hid (Tab wr (w.heap.size + 1) k (leftB x.b k))) (fun i _ => x.b.bs.length - (intOf i).toNat)
  case atStart => exact ⟨0, by omega, rfl, unhide S0, hide ((by simpa using unhide TM : Tab _ (w.heap.size + 1) 0 (fun _ _ => 0)).congr (fun a i => (leftB_zero _ a i).symm))⟩
  case round =>
    obtain ⟨k, hk, rfl, hS, HT⟩ := hrel
    clear S0 TM
    by_cases t : k < x.b.bs.length
    · obtain ⟨d0, d1, d2⟩ := (hS.r.rb k t)
      obtain ⟨c0, c1, c2, c3, c4, c5⟩ := hS.c
      obtain ⟨r1, r2, r3, r4, _⟩ := (unhide L).2.2.1.2 k t
      have WF := hide (wf_no r1 r2)
      have WA := wf_amt r3
      have YES := hide (fun hh => leftB_yes (unhide L).2.2.1 t hh)
      have NO := hide (fun hh => leftB_no (unhide L).2.2.1 t hh)
      have wz := hS.s
      have S1 := hide (hS.step (one_more wr (.cells #[.int .i64 (el3 x.b.bs k).1, .int .i64 (el3 x.b.bs k).2.1, .int .i64 (el3 x.b.bs k).2.2] 85)))
      have T1 := hide ((unhide HT).below (one_more wr (.cells #[.int .i64 (el3 x.b.bs k).1, .int .i64 (el3 x.b.bs k).2.1, .int .i64 (el3 x.b.bs k).2.2] 85)))
      clear hS HT r1 r2 r3 r4
      generalize (el3 x.b.bs k).1 = y0 at *
      generalize (el3 x.b.bs k).2.1 = y1 at *
      generalize (el3 x.b.bs k).2.2 = y2 at *
      obtain ⟨b0, h0⟩ := says_of (kindOf x.b.ac y0 = 1)
      obtain ⟨b1, h1⟩ := says_of (kindOf x.b.ic y1 = 2)
      have H0 := hide h0
      have H1 := hide h1
      clear h0 h1
      go_wp2_with fail
      refine (iHolder _ x y0 b0 (unhide S1).r (unhide L).1 (unhide H0)).mono ?_
      rintro e w1 ⟨rfl, bb⟩
      have S2 := hide ((unhide S1).step bb)
      have T2 := hide ((unhide T1).below bb)
      have f0 : w1.cell? ⟨wr.heap.size, 0, none⟩ = some (.int .i64 y0) := (bb.cell (p := ⟨wr.heap.size, 0, none⟩) (by simp)).trans (by simp)
      have f1 : w1.cell? ⟨wr.heap.size, 1, none⟩ = some (.int .i64 y1) := (bb.cell (p := ⟨wr.heap.size, 1, none⟩) (by simp)).trans (by simp)
      have f2 : w1.cell? ⟨wr.heap.size, 2, none⟩ = some (.int .i64 y2) := (bb.cell (p := ⟨wr.heap.size, 2, none⟩) (by simp)).trans (by simp)
      have z1 : wr.heap.size < w1.heap.size := by have := bb.size; simp at this; omega
      clear bb c0 c1 c2 c3 c4 c5 d0 d1 d2 S1 T1
      obtain ⟨c0, c1, c2, c3, c4, c5⟩ := (unhide S2).c
      cases b0
      · have E := hide ((unhide NO) (fun hh => (unhide H0).no hh.1))
        clear YES NO
        go_wp2
        go_roundw
        case rel =>
          refine ⟨k + 1, by omega, by go_num, unhide S2, hide ?_⟩
          obtain ⟨D, o1, o2⟩ := (unhide T2).congr (fun a i => ((unhide E) a i).symm)
          exact ⟨D, o1.mono (by omega), o2⟩
        case measure => simp [intOf]; omega
      go_wp2_with fail
      refine (iPaper _ x y1 b1 (unhide S2).r (unhide L).2.1 (unhide H1)).mono ?_
      rintro e w2 ⟨rfl, bb⟩
      have S3 := hide ((unhide S2).step bb)
      have T3 := hide ((unhide T2).below bb)
      replace f0 : w2.cell? ⟨wr.heap.size, 0, none⟩ = some (.int .i64 y0) := (bb.cell (p := ⟨wr.heap.size, 0, none⟩) z1).trans f0
      replace f1 : w2.cell? ⟨wr.heap.size, 1, none⟩ = some (.int .i64 y1) := (bb.cell (p := ⟨wr.heap.size, 1, none⟩) z1).trans f1
      replace f2 : w2.cell? ⟨wr.heap.size, 2, none⟩ = some (.int .i64 y2) := (bb.cell (p := ⟨wr.heap.size, 2, none⟩) z1).trans f2
      clear bb c0 c1 c2 c3 c4 c5 S2 T2
      cases b1
      · have E := hide ((unhide NO) (fun hh => (unhide H1).no hh.2))
        clear YES NO
        go_wp2
        go_roundw
        case rel =>
          refine ⟨k + 1, by omega, by go_num, unhide S3, hide ?_⟩
          obtain ⟨D, o1, o2⟩ := (unhide T3).congr (fun a i => ((unhide E) a i).symm)
          exact ⟨D, o1.mono (by omega), o2⟩
        case measure => simp [intOf]; omega
      have E := hide ((unhide YES) ⟨(unhide H0).yes, (unhide H1).yes⟩)
      clear YES NO
      go_wp2_with (first | (at_mapUpdate; refine Tab.wp_put _ rfl _ _ _ 138 rfl Tryz.underlying138 (w.heap.size + 1) k _ rfl (unhide T3) (by omega) y0 y1 y2 rfl rfl (unhide WF) WA ?_; intro w3 t3 g3) | go_in)
      go_roundw
      case rel => exact ⟨k + 1, by omega, by go_num, St.grown (unhide H) (unhide S3) g3 (by omega), hide (t3.congr (fun a i => ((unhide E) a i).symm))⟩
      case measure => simp [intOf]; omega
    · obtain rfl : k = x.b.bs.length := by omega
      obtain ⟨c0, c1, c2, c3, c4, c5⟩ := hS.c
      have S1 := hide hS
      have T1 := hide ((unhide HT).congr (fun a i => (leftL_zero x.b a i).symm))
      clear hS HT
      go_wp2
      go_loopw [38] (fun i wr => ∃ (k : Nat), k ≤ x.b.ls.length ∧ i = .int .i64 k ∧ St w wr x ∧ Hid (Tab wr (w.heap.size + 1) (x.b.bs.length + k) (leftL x.b k)) ∧ Hid (∀ j, j < k → LotFit x.b (el5 x.b.ls j))) (fun i _ => x.b.ls.length - (intOf i).toNat)
      case atStart => exact ⟨0, by omega, rfl, unhide S1, T1, hide (fun i hi => absurd hi (by omega))⟩
      case round =>
        clear c0 c1 c2 c3 c4 c5 S1 T1 hk t
        obtain ⟨k, hk, rfl, hS, HT, HG⟩ := hrel
        by_cases t : k < x.b.ls.length
        · obtain ⟨d0, d1, d2, d3, d4⟩ := (hS.r.rl k t)
          obtain ⟨c0, c1, c2, c3, c4, c5⟩ := hS.c
          have BAD := hide (show ¬ LotFit x.b (el5 x.b.ls k) → b = false from fun hr => (unhide T).not (fun r => hr (r.1 k t)))
          have GOOD := hide (show LotFit x.b (el5 x.b.ls k) → ∀ i, i < k + 1 → LotFit x.b (el5 x.b.ls i) from fun hr i hi => by
            by_cases e : i = k
            · subst e; exact hr
            · exact (unhide HG) i (by omega))
          have FIT := hide (show LotFit x.b (el5 x.b.ls k) ↔ kindOf x.b.ac (el5 x.b.ls k).1 = 1 ∧ kindOf x.b.ic (el5 x.b.ls k).2.1 = 2 ∧ (el5 x.b.ls k).2.2.1 ≤ x.b.lot from Iff.rfl)
          have NX := hide (leftL_next t)
          obtain ⟨r1, r2, _, r4, _⟩ := ((unhide L).2.2.2.1.2.1 k t).1
          have WF := hide (wf_no r1 r2)
          have BD := leftL_bd (unhide L) k (el5 x.b.ls k).1 (el5 x.b.ls k).2.1
          have wz := hS.s
          have mz := (unhide HT).lt
          have S1 := hide (hS.step (one_more wr (.cells #[.int .i64 (el5 x.b.ls k).1, .int .i64 (el5 x.b.ls k).2.1, .int .i64 (el5 x.b.ls k).2.2.1, .int .i64 (el5 x.b.ls k).2.2.2.1, .int .i64 (el5 x.b.ls k).2.2.2.2] 87)))
          have T1 := hide ((unhide HT).below (one_more wr (.cells #[.int .i64 (el5 x.b.ls k).1, .int .i64 (el5 x.b.ls k).2.1, .int .i64 (el5 x.b.ls k).2.2.1, .int .i64 (el5 x.b.ls k).2.2.2.1, .int .i64 (el5 x.b.ls k).2.2.2.2] 87)))
          clear hS HT r1 r2
          generalize (el5 x.b.ls k).1 = y0 at *
          generalize (el5 x.b.ls k).2.1 = y1 at *
          generalize (el5 x.b.ls k).2.2.1 = y2 at *
          generalize (el5 x.b.ls k).2.2.2.1 = y3 at *
          generalize (el5 x.b.ls k).2.2.2.2 = y4 at *
          obtain ⟨b0, h0⟩ := says_of (kindOf x.b.ac y0 = 1)
          obtain ⟨b1, h1⟩ := says_of (kindOf x.b.ic y1 = 2)
          have H0 := hide h0
          have H1 := hide h1
          clear h0 h1
          go_wp2_with fail
          refine (iHolder _ x y0 b0 (unhide S1).r (unhide L).1 (unhide H0)).mono ?_
          rintro e w1 ⟨rfl, bb⟩
          have S2 := hide ((unhide S1).step bb)
          have T2 := hide ((unhide T1).below bb)
          have f0 : w1.cell? ⟨wr.heap.size, 0, none⟩ = some (.int .i64 y0) := (bb.cell (p := ⟨wr.heap.size, 0, none⟩) (by simp)).trans (by simp)
          have f1 : w1.cell? ⟨wr.heap.size, 1, none⟩ = some (.int .i64 y1) := (bb.cell (p := ⟨wr.heap.size, 1, none⟩) (by simp)).trans (by simp)
          have f2 : w1.cell? ⟨wr.heap.size, 2, none⟩ = some (.int .i64 y2) := (bb.cell (p := ⟨wr.heap.size, 2, none⟩) (by simp)).trans (by simp)
          have f3 : w1.cell? ⟨wr.heap.size, 3, none⟩ = some (.int .i64 y3) := (bb.cell (p := ⟨wr.heap.size, 3, none⟩) (by simp)).trans (by simp)
          have f4 : w1.cell? ⟨wr.heap.size, 4, none⟩ = some (.int .i64 y4) := (bb.cell (p := ⟨wr.heap.size, 4, none⟩) (by simp)).trans (by simp)
          have z1 : wr.heap.size < w1.heap.size := by have := bb.size; simp at this; omega
          clear bb c0 c1 c2 c3 c4 c5 d0 d1 d2 d3 d4 S1 T1
          obtain ⟨c0, c1, c2, c3, c4, c5⟩ := (unhide S2).c
          cases b0
          · have F := hide ((unhide BAD) (fun hh => (unhide H0).no ((unhide FIT).1 hh).1))
            clear BAD GOOD FIT T
            go_wp2
            go_ret
            exact ⟨by rw [unhide F]; rfl, (unhide S2).b⟩
          go_wp2_with fail
          refine (iPaper _ x y1 b1 (unhide S2).r (unhide L).2.1 (unhide H1)).mono ?_
          rintro e w2 ⟨rfl, bb⟩
          have S3 := hide ((unhide S2).step bb)
          have T3 := hide ((unhide T2).below bb)
          replace f0 : w2.cell? ⟨wr.heap.size, 0, none⟩ = some (.int .i64 y0) := (bb.cell (p := ⟨wr.heap.size, 0, none⟩) z1).trans f0
          replace f1 : w2.cell? ⟨wr.heap.size, 1, none⟩ = some (.int .i64 y1) := (bb.cell (p := ⟨wr.heap.size, 1, none⟩) z1).trans f1
          replace f2 : w2.cell? ⟨wr.heap.size, 2, none⟩ = some (.int .i64 y2) := (bb.cell (p := ⟨wr.heap.size, 2, none⟩) z1).trans f2
          replace f3 : w2.cell? ⟨wr.heap.size, 3, none⟩ = some (.int .i64 y3) := (bb.cell (p := ⟨wr.heap.size, 3, none⟩) z1).trans f3
          replace f4 : w2.cell? ⟨wr.heap.size, 4, none⟩ = some (.int .i64 y4) := (bb.cell (p := ⟨wr.heap.size, 4, none⟩) z1).trans f4
          have z2 : wr.heap.size < w2.heap.size := Nat.lt_of_lt_of_le z1 bb.size
          clear bb c0 c1 c2 c3 c4 c5 S2 T2
          have c5 := (unhide S3).c.c5
          cases b1
          · have F := hide ((unhide BAD) (fun hh => (unhide H1).no ((unhide FIT).1 hh).2.1))
            clear BAD GOOD FIT T
            go_wp2
            go_ret
            exact ⟨by rw [unhide F]; rfl, (unhide S3).b⟩
          by_cases q : y2 > x.b.lot
          · have F := hide ((unhide BAD) (fun hh => by have := ((unhide FIT).1 hh).2.2; omega))
            clear BAD GOOD FIT T
            go_wp2
            go_ret
            exact ⟨by rw [unhide F]; rfl, (unhide S3).b⟩
          have G := hide ((unhide GOOD) ((unhide FIT).2 ⟨(unhide H0).yes, (unhide H1).yes, by omega⟩))
          have hq : decide (y2 > x.b.lot) = false := decide_eq_false q
          clear BAD GOOD FIT q
          go_wp2_with fail
          clear c5
          generalize hfv : leftL x.b k y0 y1 = fv at *
          have FV := hide hfv
          have wrap1 : IntKind.i64.wrap (fv - y3) = fv - y3 := by rw [IntKind.wrap_i64]; omega
          have WV : (Lit.int .i64 (fv - y3)).wf = true := WalkArith.wf_i64 (by omega)
          clear hfv
          have M1 := hide (fun (W : World) (bW : Below w2.heap.size w2 W) => Entry.entry_run ((unhide T3).below bW) (by omega) (unhide WF))
          go_region_held3 (fun w' => w'.cell? ⟨wr.heap.size, 0, none⟩ = some (.int .i64 y0) ∧ w'.cell? ⟨wr.heap.size, 1, none⟩ = some (.int .i64 y1) ∧ w'.cell? ⟨wr.heap.size, 2, none⟩ = some (.int .i64 y2) ∧ w'.cell? ⟨wr.heap.size, 3, none⟩ = some (.int .i64 y3) ∧ w'.cell? ⟨wr.heap.size, 4, none⟩ = some (.int .i64 y4)) (go_keep)
            (first | (go_at_call 106; refine (CmpL.keyL y0 y1 y2 y3 y4 w2.drew).mono ?_; rintro e w3 ⟨rfl, bb⟩; have bW : Below w2.heap.size w2 w3 := below_of_drew bb; have t3 := (unhide T3).below bW; have l3 := Post.look_run t3 (unhide WF); rw [unhide FV] at l3; obtain ⟨v0, st, w4, E4, t4, g4, ST⟩ := (unhide M1) w3 bW; have l4 := Post.look_run t4 (unhide WF); rw [unhide FV] at l4; obtain ⟨w5, E5, t5, g5⟩ := ST (fv - y3) WV; replace E5 : (Instr.entryStore 138 (.map (some (w.heap.size + 1))) (.int .i64 (st : Int)) (.int .i64 (fv - y3))).run Tryz.prog w4 = .ok () w5 := E5; have ne : some wr.heap.size ≠ some (w.heap.size + 1) := (fun e => by injection e; omega); have p0 : w3.cell? ⟨wr.heap.size, 0, none⟩ = some (.int .i64 y0) := (bW.cell (p := ⟨wr.heap.size, 0, none⟩) z2).trans f0; have q0 := g4.cell p0 ne; have o0 := g5.cell p0 ne; have p1 : w3.cell? ⟨wr.heap.size, 1, none⟩ = some (.int .i64 y1) := (bW.cell (p := ⟨wr.heap.size, 1, none⟩) z2).trans f1; have q1 := g4.cell p1 ne; have o1 := g5.cell p1 ne; have p2 : w3.cell? ⟨wr.heap.size, 2, none⟩ = some (.int .i64 y2) := (bW.cell (p := ⟨wr.heap.size, 2, none⟩) z2).trans f2; have q2 := g4.cell p2 ne; have o2 := g5.cell p2 ne; have p3 : w3.cell? ⟨wr.heap.size, 3, none⟩ = some (.int .i64 y3) := (bW.cell (p := ⟨wr.heap.size, 3, none⟩) z2).trans f3; have q3 := g4.cell p3 ne; have o3 := g5.cell p3 ne; have p4 : w3.cell? ⟨wr.heap.size, 4, none⟩ = some (.int .i64 y4) := (bW.cell (p := ⟨wr.heap.size, 4, none⟩) z2).trans f4; have q4 := g4.cell p4 ne; have o4 := g5.cell p4 ne; clear bb ST))
          all_goals
            have S4 := hide (St.grown (unhide H) ((unhide S3).step bW) g5 (by omega))
            have T5 := hide (t5.congr (fun a i => (by rw [unhide NX] : leftL x.b (k + 1) a i = upd (leftL x.b k) y0 y1 (fv - y3) a i).symm))
            clear t3 l3 E4 t4 g4 l4 t5 g5 E5 p0 p1 p2 p3 p4 q0 q1 q2 q3 q4 o0 o1 o2 o3 o4 f0 f1 f2 f3 f4 S3 T3 M1 bW NX
            go_wp2
            go_roundw
            case rel => exact ⟨k + 1, by omega, by go_num, unhide S4, T5, G⟩
            case measure => simp [intOf]; omega
        · obtain rfl : k = x.b.ls.length := by omega
          have ALL := hide (show ∀ j, j < x.b.ls.length → LotFit x.b (el5 x.b.ls j) from unhide HG)
          have S1 := hide hS
          have T1 := hide ((unhide HT).congr (fun a i => leftL_all x.b a i))
          clear hS HT HG
          go_wp2_with fail
          refine (Out.iBals _ (w.heap.size + 1) _ _ (by omega) (unhide T1)).mono ?_
          rintro e w1 ⟨qs, g, c, hq, hn, rfl, ho, bb⟩
          have B1 := hide ((unhide S1).b.trans (bb.mono (Nat.le_of_lt (unhide S1).s)))
          have hd : ((qs.length : Int) == 0) = b := by
            have hz := (list_none hq).trans (lots_impl (unhide ALL))
            by_cases z : qs.length = 0
            · rw [(unhide T).of (hz.1 z), z]; rfl
            · rw [(unhide T).not (fun r => z (hz.2 r))]
              simp only [beq_eq_false_iff_ne]
              omega
          clear bb ho hq hn
          go_wp2
          go_ret
          exact ⟨rfl, unhide B1⟩
end Go.Proofs.YtefcigaalgfmiaaGreat.ILotsFit
namespace Go.Proofs.YtefcigaalgfmiaaGreat.SLots
open Go.ChangeShapes Go.WideShapes Go.ChangeAt Go.RowKit BMem Bks IRead IHave ITrade ILists IBalsFit SBals
open Lots (Says says_of NoOk ownL restL)
open Bals (T3 el3 val sumI)
open Tup5 (T5 el5)
open Takes (sumQ)
open ILotsFit (below_of_drew)
/-- What is asked of account j and instrument k. -/
def Even (b : Bk) (j k : Nat) : Prop := (Chart.el b.ac j).2 = 1 → (Chart.el b.ic k).2 = 2 → sumQ (ownL b.ls (Chart.el b.ac j).1 (Chart.el b.ic k).1) = val b.bs (Chart.el b.ac j).1 (Chart.el b.ic k).1
set_option maxRecDepth 100000 in
set_option maxHeartbeats 8000000 in
theorem sLots (w : World) (x : Bx) (b : Bool) (h : Rd w x) (hl : Lists x.b) (hb : Says b (LotsFit x.b)) :
    Calls Tryz.prog 47 #[.agg #[.slice (some ⟨x.ga, 0, none⟩) x.b.ac.length x.ca, .slice (some ⟨x.gi, 0, none⟩) x.b.ic.length x.ci, .slice (some ⟨x.gb, 0, none⟩) x.b.bs.length x.cb, .slice (some ⟨x.gl, 0, none⟩) x.b.ls.length x.cl, .slice (some ⟨x.gt, 0, none⟩) x.b.ts.length x.ct, .int .i64 x.b.lot]] w fun e w' => e = .returned (.bool b) ∧ Below w.heap.size w w' := by
  have T := hide hb
  have L := hide hl
  have S0 := hide (St.start h 39)
  have nl := h.nl
  have na := h.na
  have ni := h.ni
  have nb := h.nb
  have n120 : x.b.ls.length ≤ 120 := hl.2.2.2.1.1
  clear hb hl h
  go_enter Tryz.func47, Tryz.ntmps47
  go_wp2
  go_loopw [3] (fun i wr => ∃ (k : Nat), k ≤ x.b.ls.length ∧ i = .int .i64 k ∧ St w wr x ∧ Hid (∀ j, j < k → LotFit x.b (el5 x.b.ls j))) (fun i _ => x.b.ls.length - (intOf i).toNat)
  case atStart => exact ⟨0, by omega, rfl, unhide S0, hide (fun i hi => absurd hi (by omega))⟩
  case round =>
    obtain ⟨k, hk, rfl, hS, HG⟩ := hrel
    clear S0
    by_cases t : k < x.b.ls.length
    · obtain ⟨d0, d1, d2, d3, d4⟩ := (hS.r.rl k t)
      obtain ⟨c0, c1, c2, c3, c4, c5⟩ := hS.c
      have BAD := hide (show ¬ LotFit x.b (el5 x.b.ls k) → b = false from fun hr => (unhide T).not (fun r => hr (r.1 k t)))
      have GOOD := hide (show LotFit x.b (el5 x.b.ls k) → ∀ i, i < k + 1 → LotFit x.b (el5 x.b.ls i) from fun hr i hi => by
        by_cases e : i = k
        · subst e; exact hr
        · exact (unhide HG) i (by omega))
      have FIT := hide (show LotFit x.b (el5 x.b.ls k) ↔ kindOf x.b.ac (el5 x.b.ls k).1 = 1 ∧ kindOf x.b.ic (el5 x.b.ls k).2.1 = 2 ∧ (el5 x.b.ls k).2.2.1 ≤ x.b.lot from Iff.rfl)
      have wz := hS.s
      have S1 := hide (hS.step (one_more wr (.cells #[.int .i64 (el5 x.b.ls k).1, .int .i64 (el5 x.b.ls k).2.1, .int .i64 (el5 x.b.ls k).2.2.1, .int .i64 (el5 x.b.ls k).2.2.2.1, .int .i64 (el5 x.b.ls k).2.2.2.2] 87)))
      clear hS
      generalize LotFit x.b (el5 x.b.ls k) = FP at *
      generalize (el5 x.b.ls k).1 = y0 at *
      generalize (el5 x.b.ls k).2.1 = y1 at *
      generalize (el5 x.b.ls k).2.2.1 = y2 at *
      generalize (el5 x.b.ls k).2.2.2.1 = y3 at *
      generalize (el5 x.b.ls k).2.2.2.2 = y4 at *
      generalize hK : kindOf x.b.ac y0 = K at *
      generalize hJ : kindOf x.b.ic y1 = J at *
      have HK := hide hK
      have HJ := hide hJ
      clear hK hJ
      go_wp2_with fail
      refine (sKindA _ x y0 K (unhide S1).r (unhide L).1 (unhide HK)).mono ?_
      rintro e w1 ⟨rfl, bb⟩
      have S2 := hide ((unhide S1).step bb)
      have f1 : w1.cell? ⟨wr.heap.size, 1, none⟩ = some (.int .i64 y1) := (bb.cell (p := ⟨wr.heap.size, 1, none⟩) (by simp)).trans (by simp)
      have f2 : w1.cell? ⟨wr.heap.size, 2, none⟩ = some (.int .i64 y2) := (bb.cell (p := ⟨wr.heap.size, 2, none⟩) (by simp)).trans (by simp)
      have z1 : wr.heap.size < w1.heap.size := by have := bb.size; simp at this; omega
      clear bb c0 c1 c2 c3 c4 c5 d0 d1 d2 d3 d4
      obtain ⟨c0, c1, c2, c3, c4, c5⟩ := (unhide S2).c
      by_cases q0 : K = 1
      · have hq0 : (K != 1) = false := by simp [q0]
        have Q0 := hide q0
        clear q0
        go_wp2_with fail
        refine (sKindI _ x y1 J (unhide S2).r (unhide L).2.1 (unhide HJ)).mono ?_
        rintro e w2 ⟨rfl, bb⟩
        have S3 := hide ((unhide S2).step bb)
        replace f2 : w2.cell? ⟨wr.heap.size, 2, none⟩ = some (.int .i64 y2) := (bb.cell (p := ⟨wr.heap.size, 2, none⟩) z1).trans f2
        clear bb c0 c1 c2 c3 c4 c5
        obtain ⟨c0, c1, c2, c3, c4, c5⟩ := (unhide S3).c
        by_cases q1 : J = 2
        · have hq1 : (J != 2) = false := by simp [q1]
          by_cases q2 : y2 > x.b.lot
          · have F := hide ((unhide BAD) (fun hh => by have := ((unhide FIT).1 hh).2.2; omega))
            clear BAD GOOD FIT T q1
            go_wp2
            go_ret
            exact ⟨by rw [unhide F]; rfl, (unhide S3).b⟩
          · have G := hide ((unhide GOOD) ((unhide FIT).2 ⟨unhide Q0, q1, by omega⟩))
            have hq2 : decide (y2 > x.b.lot) = false := decide_eq_false q2
            clear BAD GOOD FIT q1 q2
            go_wp2
            go_roundw
            case rel => exact ⟨k + 1, by omega, by go_num, unhide S3, G⟩
            case measure => simp [intOf]; omega
        · have F := hide ((unhide BAD) (fun hh => q1 ((unhide FIT).1 hh).2.1))
          have hq1 : (J != 2) = true := by simp [q1]
          clear BAD GOOD FIT T q1
          go_wp2
          go_ret
          exact ⟨by rw [unhide F]; rfl, (unhide S3).b⟩
      · have F := hide ((unhide BAD) (fun hh => q0 ((unhide FIT).1 hh).1))
        have hq : (K != 1) = true := by simp [q0]
        clear BAD GOOD FIT T q0
        go_wp2
        go_ret
        exact ⟨by rw [unhide F]; rfl, (unhide S2).b⟩
    · have ALL := hide (show ∀ j, j < x.b.ls.length → LotFit x.b (el5 x.b.ls j) from fun j hj => (unhide HG) j (by omega))
      have IFF := hide (lots_spec (unhide L).1 (unhide L).2.1 (unhide ALL))
      obtain ⟨c0, c1, c2, c3, c4, c5⟩ := hS.c
      have S1 := hide hS
      clear hS HG
      go_wp2
      go_loopw [5] (fun i wr => ∃ (j : Nat), j ≤ x.b.ac.length ∧ i = .int .i64 j ∧ St w wr x ∧ Hid (∀ j', j' < j → ∀ k, k < x.b.ic.length → Even x.b j' k)) (fun i _ => x.b.ac.length - (intOf i).toNat)
      case atStart => exact ⟨0, by omega, rfl, unhide S1, hide (fun i hi => absurd hi (by omega))⟩
      case round =>
        clear c0 c1 c2 c3 c4 c5 S1 hk t
        obtain ⟨j, hj, rfl, hS, HG⟩ := hrel
        obtain ⟨c0, c1, c2, c3, c4, c5⟩ := hS.c
        have S1 := hide hS
        clear hS
        by_cases t : j < x.b.ac.length
        · go_wp2
          go_loopw [6] (fun i wr => ∃ (k : Nat), k ≤ x.b.ic.length ∧ i = .int .i64 k ∧ St w wr x ∧ Hid (∀ k', k' < k → Even x.b j k')) (fun i _ => x.b.ic.length - (intOf i).toNat)
          case atStart => exact ⟨0, by omega, rfl, unhide S1, hide (fun i hi => absurd hi (by omega))⟩
          case round =>
            clear c0 c1 c2 c3 c4 c5 S1
            obtain ⟨k, hk, rfl, hS, HK⟩ := hrel
            obtain ⟨c0, c1, c2, c3, c4, c5⟩ := hS.c
            by_cases u : k < x.b.ic.length
            · obtain ⟨a0, a1⟩ := hS.r.ra j t
              obtain ⟨i0, i1⟩ := hS.r.ri k u
              have S2 := hide hS
              have wz := hS.s
              clear hS
              have BAD := hide (show ¬ Even x.b j k → b = false from fun hr => (unhide T).not (fun r => hr (((unhide IFF).1 r) j t k u)))
              have GOOD := hide (show Even x.b j k → ∀ i, i < k + 1 → Even x.b j i from fun hr i hi => by
                by_cases e : i = k
                · subst e; exact hr
                · exact (unhide HK) i (by omega))
              have DEF := hide (show Even x.b j k ↔ ((Chart.el x.b.ac j).2 = 1 → (Chart.el x.b.ic k).2 = 2 → sumQ (ownL x.b.ls (Chart.el x.b.ac j).1 (Chart.el x.b.ic k).1) = val x.b.bs (Chart.el x.b.ac j).1 (Chart.el x.b.ic k).1) from Iff.rfl)
              generalize Even x.b j k = EP at *
              generalize (Chart.el x.b.ac j).1 = y0 at *
              generalize (Chart.el x.b.ac j).2 = y1 at *
              generalize (Chart.el x.b.ic k).1 = z0 at *
              generalize (Chart.el x.b.ic k).2 = z1 at *
              by_cases q0 : y1 = 1
              · by_cases q1 : z1 = 2
                · have DEF2 := hide (show EP ↔ sumQ (ownL x.b.ls y0 z0) = val x.b.bs y0 z0 from (unhide DEF).trans ⟨fun hh => hh q0 q1, fun hh _ _ => hh⟩)
                  have hq0 : (y1 == 1) = true := by simp [q0]
                  have hq1 : (z1 == 2) = true := by simp [q1]
                  have kj : (0 : Int) ≤ (j : Int) := by omega
                  have kj2 : (j : Int) < (x.b.ac.length : Int) := by omega
                  have kk : (0 : Int) ≤ (k : Int) := by omega
                  have kk2 : (k : Int) < (x.b.ic.length : Int) := by omega
                  clear DEF q0 q1
                  go_wp2_with fail
                  have ga := (unhide S2).r.la
                  have gi := (unhide S2).r.li
                  go_region_held3 (fun w' => w'.cell? ⟨w.heap.size, 0, none⟩ = some (.slice (some ⟨x.ga, 0, none⟩) x.b.ac.length x.ca) ∧ w'.cell? ⟨w.heap.size, 1, none⟩ = some (.slice (some ⟨x.gi, 0, none⟩) x.b.ic.length x.ci) ∧ w'.cell? ⟨w.heap.size, 2, none⟩ = some (.slice (some ⟨x.gb, 0, none⟩) x.b.bs.length x.cb) ∧ w'.cell? ⟨w.heap.size, 3, none⟩ = some (.slice (some ⟨x.gl, 0, none⟩) x.b.ls.length x.cl) ∧ w'.cell? ⟨x.ga, j * 2, none⟩ = some (.int .i64 y0) ∧ w'.cell? ⟨x.gi, k * 2, none⟩ = some (.int .i64 z0)) (go_keep)
                    (first | (go_at_call 69; refine (SSplit.sSplit wr.drew x.gl _ x.cl x.b.ls y0 z0 rfl (by omega) (unhide S2).r.ll (unhide S2).r.rl).mono ?_; rintro e w3 ⟨g1, k1, g2, k2, rfl, o1, o2, ne, bb⟩; have bW : Below wr.heap.size wr w3 := below_of_drew bb; have pc0 : w3.cell? ⟨w.heap.size, 0, none⟩ = some (.slice (some ⟨x.ga, 0, none⟩) x.b.ac.length x.ca) := (bW.cell (p := ⟨w.heap.size, 0, none⟩) wz).trans c0; have pc1 : w3.cell? ⟨w.heap.size, 1, none⟩ = some (.slice (some ⟨x.gi, 0, none⟩) x.b.ic.length x.ci) := (bW.cell (p := ⟨w.heap.size, 1, none⟩) wz).trans c1; have pc2 : w3.cell? ⟨w.heap.size, 2, none⟩ = some (.slice (some ⟨x.gb, 0, none⟩) x.b.bs.length x.cb) := (bW.cell (p := ⟨w.heap.size, 2, none⟩) wz).trans c2; have pc3 : w3.cell? ⟨w.heap.size, 3, none⟩ = some (.slice (some ⟨x.gl, 0, none⟩) x.b.ls.length x.cl) := (bW.cell (p := ⟨w.heap.size, 3, none⟩) wz).trans c3; have pa0 : w3.cell? ⟨x.ga, j * 2, none⟩ = some (.int .i64 y0) := (bW.cell (p := ⟨x.ga, j * 2, none⟩) ga).trans a0; have pi0 : w3.cell? ⟨x.gi, k * 2, none⟩ = some (.int .i64 z0) := (bW.cell (p := ⟨x.gi, k * 2, none⟩) gi).trans i0))
                  have S3 := hide ((unhide S2).step bW)
                  have O1 := hide o1
                  have l1 := o1.lt.2
                  clear c0 c1 c2 c3 c4 c5 a0 a1 i0 i1 bb bW o1 o2 ne
                  obtain ⟨ps1, ps2, ps3⟩ := Takes.own_pos (unhide L).2.2.2.1 y0 z0
                  have P1 := hide ps1
                  have n1 : (ownL x.b.ls y0 z0).length ≤ 1048576 := Nat.le_trans (List.length_filter_le _ _) nl
                  have w3z := (unhide S3).s
                  have ga3 := (unhide S3).r.la
                  have gi3 := (unhide S3).r.li
                  clear ps1 ps3
                  generalize hQ : sumQ (ownL x.b.ls y0 z0) = QV at *
                  generalize hV : val x.b.bs y0 z0 = VV at *
                  have HQ := hide hQ
                  have HV := hide hV
                  clear hQ hV
                  go_wp2_with fail
                  go_region_held3 (fun w' => w'.cell? ⟨w.heap.size, 0, none⟩ = some (.slice (some ⟨x.ga, 0, none⟩) x.b.ac.length x.ca) ∧ w'.cell? ⟨w.heap.size, 1, none⟩ = some (.slice (some ⟨x.gi, 0, none⟩) x.b.ic.length x.ci) ∧ w'.cell? ⟨w.heap.size, 2, none⟩ = some (.slice (some ⟨x.gb, 0, none⟩) x.b.bs.length x.cb) ∧ w'.cell? ⟨w.heap.size, 3, none⟩ = some (.slice (some ⟨x.gl, 0, none⟩) x.b.ls.length x.cl) ∧ w'.cell? ⟨x.ga, j * 2, none⟩ = some (.int .i64 y0) ∧ w'.cell? ⟨x.gi, k * 2, none⟩ = some (.int .i64 z0)) (go_keep)
                    (first | (go_at_call 70; refine (SSplit.sQty w3.drew g1 _ k1 (ownL x.b.ls y0 z0) rfl n1 (unhide O1).at (unhide P1) (by rw [unhide HQ]; exact ps2)).mono ?_; rintro e w4 ⟨he, bb⟩; rw [unhide HQ] at he; subst he; have bW : Below w3.heap.size w3 w4 := below_of_drew bb; have qc0 : w4.cell? ⟨w.heap.size, 0, none⟩ = some (.slice (some ⟨x.ga, 0, none⟩) x.b.ac.length x.ca) := (bW.cell (p := ⟨w.heap.size, 0, none⟩) w3z).trans pc0; have qc1 : w4.cell? ⟨w.heap.size, 1, none⟩ = some (.slice (some ⟨x.gi, 0, none⟩) x.b.ic.length x.ci) := (bW.cell (p := ⟨w.heap.size, 1, none⟩) w3z).trans pc1; have qc2 : w4.cell? ⟨w.heap.size, 2, none⟩ = some (.slice (some ⟨x.gb, 0, none⟩) x.b.bs.length x.cb) := (bW.cell (p := ⟨w.heap.size, 2, none⟩) w3z).trans pc2; have qc3 : w4.cell? ⟨w.heap.size, 3, none⟩ = some (.slice (some ⟨x.gl, 0, none⟩) x.b.ls.length x.cl) := (bW.cell (p := ⟨w.heap.size, 3, none⟩) w3z).trans pc3; have qa0 : w4.cell? ⟨x.ga, j * 2, none⟩ = some (.int .i64 y0) := (bW.cell (p := ⟨x.ga, j * 2, none⟩) ga3).trans pa0; have qi0 : w4.cell? ⟨x.gi, k * 2, none⟩ = some (.int .i64 z0) := (bW.cell (p := ⟨x.gi, k * 2, none⟩) gi3).trans pi0) | (go_at_call 71; refine (Look.sOf w4 x.gb _ x.cb x.b.bs y0 z0 rfl nb ((unhide S3).r.below bW).rb).mono ?_; rintro e w5 ⟨he, rfl⟩; rw [unhide HV] at he; subst he))
                  have S4 := hide ((unhide S3).step bW)
                  clear bb bW qc0 qc1 qc2 qc3 qa0 qi0 pc0 pc1 pc2 pc3 pa0 pi0
                  by_cases q2 : QV = VV
                  · have G := hide ((unhide GOOD) ((unhide DEF2).2 q2))
                    have hq2 : (QV != VV) = false := by simp [q2]
                    clear BAD GOOD DEF2 q2
                    go_wp2
                    go_roundw
                    case rel => exact ⟨k + 1, by omega, by go_num, unhide S4, G⟩
                    case measure => simp [intOf]; omega
                  · have F := hide ((unhide BAD) (fun hh => q2 ((unhide DEF2).1 hh)))
                    have hq2 : (QV != VV) = true := by simp [q2]
                    clear BAD GOOD DEF2 T q2
                    go_wp2
                    go_ret
                    exact ⟨by rw [unhide F]; rfl, (unhide S4).b⟩
                · have G := hide ((unhide GOOD) ((unhide DEF).2 (fun _ e => absurd e q1)))
                  have hq0 : (y1 == 1) = true := by simp [q0]
                  have hq1 : (z1 == 2) = false := by simp [q1]
                  clear BAD GOOD DEF q0 q1
                  go_wp2
                  go_roundw
                  case rel => exact ⟨k + 1, by omega, by go_num, unhide S2, G⟩
                  case measure => simp [intOf]; omega
              · have G := hide ((unhide GOOD) ((unhide DEF).2 (fun e _ => absurd e q0)))
                have hq0 : (y1 == 1) = false := by simp [q0]
                clear BAD GOOD DEF q0
                go_wp2
                go_roundw
                case rel => exact ⟨k + 1, by omega, by go_num, unhide S2, G⟩
                case measure => simp [intOf]; omega
            · have G := hide (show ∀ j', j' < j + 1 → ∀ k, k < x.b.ic.length → Even x.b j' k from fun j' hj' k' hk' => by
                by_cases e : j' = j
                · subst e; exact (unhide HK) k' (by omega)
                · exact (unhide HG) j' (by omega) k' hk')
              have S2 := hide hS
              clear hS
              go_wp2
              go_roundw
              case rel => exact ⟨j + 1, by omega, by go_num, unhide S2, G⟩
              case measure => simp [intOf]; omega
        · have F := hide ((unhide T).of ((unhide IFF).2 (fun j' hj' k hk => (unhide HG) j' (by omega) k hk)))
          go_wp2
          go_ret
          exact ⟨by rw [unhide F]; rfl, (unhide S1).b⟩
end Go.Proofs.YtefcigaalgfmiaaGreat.SLots
namespace Go.Proofs.YtefcigaalgfmiaaGreat.SBooksOk
open Go.ChangeShapes Go.WideShapes Go.ChangeAt Go.RowKit BMem Bks IRead IHave ITrade ILists IBalsFit SBals SLots
open Lots (Says says_of NoOk)
open Tup8 (T8 el8)
theorem sOksA (w : World) (x : Bx) (ok : Bool) (h : Rd w x) (hok : Chart.Says ok 20 4 x.b.ac) : Calls Tryz.prog 40 #[.slice (some ⟨x.ga, 0, none⟩) x.b.ac.length x.ca] w fun e w' => e = .returned (.bool ok) ∧ Below w.heap.size w w' :=
  (AccountSOk.sOk w x.ga _ x.ca x.b.ac ok rfl h.na h.ra hok).mono fun e w' ⟨h1, q, h2⟩ => ⟨h1, by rw [h2]; exact below_drewN (Below.refl _ _) q⟩
theorem sOksI (w : World) (x : Bx) (ok : Bool) (h : Rd w x) (hok : Chart.Says ok 8 2 x.b.ic) : Calls Tryz.prog 41 #[.slice (some ⟨x.gi, 0, none⟩) x.b.ic.length x.ci] w fun e w' => e = .returned (.bool ok) ∧ Below w.heap.size w w' :=
  (InstrSOk.sOk w x.gi _ x.ci x.b.ic ok rfl h.ni h.ri hok).mono fun e w' ⟨h1, q, h2⟩ => ⟨h1, by rw [h2]; exact below_drewN (Below.refl _ _) q⟩
set_option maxRecDepth 100000 in
set_option maxHeartbeats 8000000 in
theorem sBooksOk (w : World) (x : Bx) (b : Bool) (h : Rd w x) (hb : Says b (Ok x.b)) :
    Calls Tryz.prog 21 #[.agg #[.slice (some ⟨x.ga, 0, none⟩) x.b.ac.length x.ca, .slice (some ⟨x.gi, 0, none⟩) x.b.ic.length x.ci, .slice (some ⟨x.gb, 0, none⟩) x.b.bs.length x.cb, .slice (some ⟨x.gl, 0, none⟩) x.b.ls.length x.cl, .slice (some ⟨x.gt, 0, none⟩) x.b.ts.length x.ct, .int .i64 x.b.lot]] w fun e w' => e = .returned (.bool b) ∧ Below w.heap.size w w' := by
  have T := hide hb
  have S0 := hide (St.start h 39)
  have nb := h.nb
  have nl := h.nl
  have nt := h.nt
  obtain ⟨b0, h0⟩ := Chart.says_of 20 4 x.b.ac
  obtain ⟨b1, h1⟩ := Chart.says_of 8 2 x.b.ic
  obtain ⟨b2, h2⟩ := Bals.says_of (Bals.Right x.b.bs)
  obtain ⟨b3, h3⟩ := says_of (Lots.Right x.b.ls)
  obtain ⟨b4, h4⟩ := says_of (TRight x.b.ts)
  obtain ⟨b5, h5⟩ := says_of (0 ≤ x.b.lot ∧ x.b.lot ≤ 1000000000)
  obtain ⟨b6, h6⟩ := says_of (BalsFit x.b)
  obtain ⟨b7, h7⟩ := says_of (LotsFit x.b)
  have H0 := hide h0
  have H1 := hide h1
  have H2 := hide h2
  have H3 := hide h3
  have H4 := hide h4
  have H5 := hide h5
  have H6 := hide h6
  have H7 := hide h7
  clear hb h h0 h1 h2 h3 h4 h5 h6 h7
  go_enter Tryz.func21, Tryz.ntmps21
  go_wp2_with fail
  refine (sOksA _ x b0 (unhide S0).r (unhide H0)).mono ?_
  rintro e w1 ⟨rfl, bb⟩
  have S1 := hide ((unhide S0).step bb)
  clear bb
  obtain ⟨c0, c1, c2, c3, c4, c5⟩ := (unhide S1).c
  cases b0
  · have F := hide ((unhide T).not (fun hh => (unhide H0).no hh.1.1))
    clear T
    go_wp2
    go_ret
    exact ⟨by rw [unhide F]; rfl, (unhide S1).b⟩
  go_wp2_with fail
  refine (sOksI _ x b1 (unhide S1).r (unhide H1)).mono ?_
  rintro e w2 ⟨rfl, bb⟩
  have S2 := hide ((unhide S1).step bb)
  clear bb
  clear c0 c1 c2 c3 c4 c5
  obtain ⟨c0, c1, c2, c3, c4, c5⟩ := (unhide S2).c
  cases b1
  · have F := hide ((unhide T).not (fun hh => (unhide H1).no hh.1.2.1))
    clear T
    go_wp2
    go_ret
    exact ⟨by rw [unhide F]; rfl, (unhide S2).b⟩
  go_wp2_with fail
  refine (SOk3.sOk _ x.gb _ x.cb x.b.bs b2 rfl nb (unhide S2).r.lb (unhide S2).r.rb (unhide H2)).mono ?_
  rintro e w3 ⟨rfl, bb⟩
  have S3 := hide ((unhide S2).step bb)
  clear bb
  clear c0 c1 c2 c3 c4 c5
  obtain ⟨c0, c1, c2, c3, c4, c5⟩ := (unhide S3).c
  cases b2
  · have F := hide ((unhide T).not (fun hh => (unhide H2).no hh.1.2.2.1))
    clear T
    go_wp2
    go_ret
    exact ⟨by rw [unhide F]; rfl, (unhide S3).b⟩
  go_wp2_with fail
  refine (SOk5.sOk _ x.gl _ x.cl x.b.ls b3 rfl nl (unhide S3).r.ll (unhide S3).r.rl (unhide H3)).mono ?_
  rintro e w4 ⟨rfl, bb⟩
  have S4 := hide ((unhide S3).step bb)
  clear bb
  clear c0 c1 c2 c3 c4 c5
  obtain ⟨c0, c1, c2, c3, c4, c5⟩ := (unhide S4).c
  cases b3
  · have F := hide ((unhide T).not (fun hh => (unhide H3).no hh.1.2.2.2.1))
    clear T
    go_wp2
    go_ret
    exact ⟨by rw [unhide F]; rfl, (unhide S4).b⟩
  go_wp2_with fail
  refine (ITrade.sOk _ x.gt _ x.ct x.b.ts b4 rfl nt (unhide S4).r.lt (unhide S4).r.rt (unhide H4)).mono ?_
  rintro e w5 ⟨rfl, bb⟩
  have S5 := hide ((unhide S4).step bb)
  clear bb
  clear c0 c1 c2 c3 c4 c5
  obtain ⟨c0, c1, c2, c3, c4, c5⟩ := (unhide S5).c
  cases b4
  · have F := hide ((unhide T).not (fun hh => (unhide H4).no hh.1.2.2.2.2.1))
    clear T
    go_wp2
    go_ret
    exact ⟨by rw [unhide F]; rfl, (unhide S5).b⟩
  go_wp2_with fail
  refine (SOk5.sIn x.b.lot 0 1000000000 b5 _ (unhide H5)).mono ?_
  rintro e w6 ⟨rfl, rfl⟩
  have S6 := S5
  cases b5
  · have F := hide ((unhide T).not (fun hh => (unhide H5).no hh.1.2.2.2.2.2))
    clear T
    go_wp2
    go_ret
    exact ⟨by rw [unhide F]; rfl, (unhide S6).b⟩
  have L := hide (show Lists x.b from ⟨(unhide H0).yes, (unhide H1).yes, (unhide H2).yes, (unhide H3).yes, (unhide H4).yes, (unhide H5).yes⟩)
  go_wp2_with fail
  refine (sBals _ x b6 (unhide S6).r (unhide L) (unhide H6)).mono ?_
  rintro e w7 ⟨rfl, bb⟩
  have S7 := hide ((unhide S6).step bb)
  clear bb
  clear c0 c1 c2 c3 c4 c5
  obtain ⟨c0, c1, c2, c3, c4, c5⟩ := (unhide S7).c
  cases b6
  · have F := hide ((unhide T).not (fun hh => (unhide H6).no hh.2.1))
    clear T
    go_wp2
    go_ret
    exact ⟨by rw [unhide F]; rfl, (unhide S7).b⟩
  go_wp2_with fail
  refine (sLots _ x b7 (unhide S7).r (unhide L) (unhide H7)).mono ?_
  rintro e w8 ⟨rfl, bb⟩
  have S8 := hide ((unhide S7).step bb)
  clear bb
  clear c0 c1 c2 c3 c4 c5
  obtain ⟨c0, c1, c2, c3, c4, c5⟩ := (unhide S8).c
  cases b7
  · have F := hide ((unhide T).not (fun hh => (unhide H7).no hh.2.2.1))
    clear T
    go_wp2
    go_ret
    exact ⟨by rw [unhide F]; rfl, (unhide S8).b⟩
  go_wp2
  go_loopw [3] (fun i wr => ∃ (k : Nat), k ≤ x.b.ts.length ∧ i = .int .i64 k ∧ St w wr x ∧ Hid (∀ j, j < k → TradeFit x.b (el8 x.b.ts j))) (fun i _ => x.b.ts.length - (intOf i).toNat)
  case atStart => exact ⟨0, by omega, rfl, unhide S8, hide (fun i hi => absurd hi (by omega))⟩
  case round =>
    obtain ⟨k, hk, rfl, hS, HG⟩ := hrel
    clear S0 S1 S2 S3 S4 S5 S6 S7 S8 c0 c1 c2 c3 c4 c5
    obtain ⟨c0, c1, c2, c3, c4, c5⟩ := hS.c
    by_cases t : k < x.b.ts.length
    · obtain ⟨d0, d1, d2, d3, d4, d5, d6, d7⟩ := (hS.r.rt k t)
      have BAD := hide (show ¬ TradeFit x.b (el8 x.b.ts k) → b = false from fun hr => (unhide T).not (fun r => hr (r.2.2.2 k t)))
      have GOOD := hide (show TradeFit x.b (el8 x.b.ts k) → ∀ i, i < k + 1 → TradeFit x.b (el8 x.b.ts i) from fun hr i hi => by
        by_cases e : i = k
        · subst e; exact hr
        · exact (unhide HG) i (by omega))
      have FIT := hide (show TradeFit x.b (el8 x.b.ts k) ↔ kindOf x.b.ac (el8 x.b.ts k).2.1 = 1 ∧ kindOf x.b.ac (el8 x.b.ts k).2.2.1 = 1 ∧ kindOf x.b.ic (el8 x.b.ts k).2.2.2.1 = 2 ∧ kindOf x.b.ic (el8 x.b.ts k).2.2.2.2.2.1 = 1 from Iff.rfl)
      have wz := hS.s
      have S1 := hide (hS.step (one_more wr (.cells #[.int .i64 (el8 x.b.ts k).1, .int .i64 (el8 x.b.ts k).2.1, .int .i64 (el8 x.b.ts k).2.2.1, .int .i64 (el8 x.b.ts k).2.2.2.1, .int .i64 (el8 x.b.ts k).2.2.2.2.1, .int .i64 (el8 x.b.ts k).2.2.2.2.2.1, .int .i64 (el8 x.b.ts k).2.2.2.2.2.2.1, .int .i64 (el8 x.b.ts k).2.2.2.2.2.2.2] 79)))
      clear hS
      generalize TradeFit x.b (el8 x.b.ts k) = FP at *
      generalize (el8 x.b.ts k).1 = y0 at *
      generalize (el8 x.b.ts k).2.1 = y1 at *
      generalize (el8 x.b.ts k).2.2.1 = y2 at *
      generalize (el8 x.b.ts k).2.2.2.1 = y3 at *
      generalize (el8 x.b.ts k).2.2.2.2.1 = y4 at *
      generalize (el8 x.b.ts k).2.2.2.2.2.1 = y5 at *
      generalize (el8 x.b.ts k).2.2.2.2.2.2.1 = y6 at *
      generalize (el8 x.b.ts k).2.2.2.2.2.2.2 = y7 at *
      generalize hK1 : kindOf x.b.ac y1 = K1 at *
      generalize hK2 : kindOf x.b.ac y2 = K2 at *
      generalize hK3 : kindOf x.b.ic y3 = K3 at *
      generalize hK4 : kindOf x.b.ic y5 = K4 at *
      have N1 := hide hK1
      have N2 := hide hK2
      have N3 := hide hK3
      have N4 := hide hK4
      clear hK1 hK2 hK3 hK4
      go_wp2_with fail
      refine (sKindA _ x y1 K1 (unhide S1).r (unhide L).1 (unhide N1)).mono ?_
      rintro e v1 ⟨rfl, bb⟩
      have S2 := hide ((unhide S1).step bb)
      have f2 : v1.cell? ⟨wr.heap.size, 2, none⟩ = some (.int .i64 y2) := (bb.cell (p := ⟨wr.heap.size, 2, none⟩) (by simp)).trans (by simp)
      have f3 : v1.cell? ⟨wr.heap.size, 3, none⟩ = some (.int .i64 y3) := (bb.cell (p := ⟨wr.heap.size, 3, none⟩) (by simp)).trans (by simp)
      have f5 : v1.cell? ⟨wr.heap.size, 5, none⟩ = some (.int .i64 y5) := (bb.cell (p := ⟨wr.heap.size, 5, none⟩) (by simp)).trans (by simp)
      have z1 : wr.heap.size < v1.heap.size := by have := bb.size; simp at this; omega
      clear d0 d1 d2 d3 d4 d5 d6 d7
      clear bb c0 c1 c2 c3 c4 c5
      obtain ⟨c0, c1, c2, c3, c4, c5⟩ := (unhide S2).c
      by_cases q1 : K1 = 1
      rotate_left
      · have F := hide ((unhide BAD) (fun hh => q1 ((unhide FIT).1 hh).1))
        have hq : (K1 != 1) = true := by simp [q1]
        clear BAD GOOD FIT T q1
        go_wp2
        go_ret
        exact ⟨by rw [unhide F]; rfl, (unhide S2).b⟩
      have hq1 : (K1 != 1) = false := by simp [q1]
      have Q1 := hide q1
      clear q1
      go_wp2_with fail
      refine (sKindA _ x y2 K2 (unhide S2).r (unhide L).1 (unhide N2)).mono ?_
      rintro e v2 ⟨rfl, bb⟩
      have S3 := hide ((unhide S2).step bb)
      replace f2 : v2.cell? ⟨wr.heap.size, 2, none⟩ = some (.int .i64 y2) := (bb.cell (p := ⟨wr.heap.size, 2, none⟩) z1).trans f2
      replace f3 : v2.cell? ⟨wr.heap.size, 3, none⟩ = some (.int .i64 y3) := (bb.cell (p := ⟨wr.heap.size, 3, none⟩) z1).trans f3
      replace f5 : v2.cell? ⟨wr.heap.size, 5, none⟩ = some (.int .i64 y5) := (bb.cell (p := ⟨wr.heap.size, 5, none⟩) z1).trans f5
      have z2 : wr.heap.size < v2.heap.size := Nat.lt_of_lt_of_le z1 bb.size
      clear bb c0 c1 c2 c3 c4 c5
      obtain ⟨c0, c1, c2, c3, c4, c5⟩ := (unhide S3).c
      by_cases q2 : K2 = 1
      rotate_left
      · have F := hide ((unhide BAD) (fun hh => q2 ((unhide FIT).1 hh).2.1))
        have hq : (K2 != 1) = true := by simp [q2]
        clear BAD GOOD FIT T q2
        go_wp2
        go_ret
        exact ⟨by rw [unhide F]; rfl, (unhide S3).b⟩
      have hq2 : (K2 != 1) = false := by simp [q2]
      have Q2 := hide q2
      clear q2
      go_wp2_with fail
      refine (sKindI _ x y3 K3 (unhide S3).r (unhide L).2.1 (unhide N3)).mono ?_
      rintro e v3 ⟨rfl, bb⟩
      have S4 := hide ((unhide S3).step bb)
      replace f2 : v3.cell? ⟨wr.heap.size, 2, none⟩ = some (.int .i64 y2) := (bb.cell (p := ⟨wr.heap.size, 2, none⟩) z2).trans f2
      replace f3 : v3.cell? ⟨wr.heap.size, 3, none⟩ = some (.int .i64 y3) := (bb.cell (p := ⟨wr.heap.size, 3, none⟩) z2).trans f3
      replace f5 : v3.cell? ⟨wr.heap.size, 5, none⟩ = some (.int .i64 y5) := (bb.cell (p := ⟨wr.heap.size, 5, none⟩) z2).trans f5
      have z3 : wr.heap.size < v3.heap.size := Nat.lt_of_lt_of_le z2 bb.size
      clear bb c0 c1 c2 c3 c4 c5
      obtain ⟨c0, c1, c2, c3, c4, c5⟩ := (unhide S4).c
      by_cases q3 : K3 = 2
      rotate_left
      · have F := hide ((unhide BAD) (fun hh => q3 ((unhide FIT).1 hh).2.2.1))
        have hq : (K3 != 2) = true := by simp [q3]
        clear BAD GOOD FIT T q3
        go_wp2
        go_ret
        exact ⟨by rw [unhide F]; rfl, (unhide S4).b⟩
      have hq3 : (K3 != 2) = false := by simp [q3]
      have Q3 := hide q3
      clear q3
      go_wp2_with fail
      refine (sKindI _ x y5 K4 (unhide S4).r (unhide L).2.1 (unhide N4)).mono ?_
      rintro e v4 ⟨rfl, bb⟩
      have S5 := hide ((unhide S4).step bb)
      clear bb c0 c1 c2 c3 c4 c5
      obtain ⟨c0, c1, c2, c3, c4, c5⟩ := (unhide S5).c
      by_cases q4 : K4 = 1
      rotate_left
      · have F := hide ((unhide BAD) (fun hh => q4 ((unhide FIT).1 hh).2.2.2))
        have hq : (K4 != 1) = true := by simp [q4]
        clear BAD GOOD FIT T q4
        go_wp2
        go_ret
        exact ⟨by rw [unhide F]; rfl, (unhide S5).b⟩
      have hq4 : (K4 != 1) = false := by simp [q4]
      have Q4 := hide q4
      clear q4
      have G := hide ((unhide GOOD) ((unhide FIT).2 ⟨unhide Q1, unhide Q2, unhide Q3, unhide Q4⟩))
      clear BAD GOOD FIT
      go_wp2
      go_roundw
      case rel => exact ⟨k + 1, by omega, by go_num, unhide S5, G⟩
      case measure => simp [intOf]; omega
    · have F := hide ((unhide T).of ⟨unhide L, (unhide H6).yes, (unhide H7).yes, fun j hj => (unhide HG) j (by omega)⟩)
      have S1 := hide hS
      clear hS
      go_wp2
      go_ret
      exact ⟨by rw [unhide F]; rfl, (unhide S1).b⟩
end Go.Proofs.YtefcigaalgfmiaaGreat.SBooksOk
namespace Go.Proofs.YtefcigaalgfmiaaGreat.SPack13
open Go.ChangeShapes Go.WideShapes Go.ChangeAt Go.RowKit BMem Bks SPuts11 SNums13
open IBalsFit (St one_more)
open Lots (Says says_of)
open Bals (T3 el3)
open Tup5 (T5 el5)
open Tup8 (T8 el8)
open SPut11 (lit0)
/-- A number of right books. -/
abbrev Nm (y : Int) : Prop := 0 ≤ y ∧ y ≤ 2000000000000000
theorem flat_all {α : Type} {ps : List α} {f : α → List Int} {d : α} (h : ∀ i, i < ps.length → ∀ y ∈ f (ps.getD i d), Nm y) : ∀ y ∈ ps.flatMap f, Nm y := by
  intro y hy
  obtain ⟨p, hp, hy⟩ := List.mem_flatMap.1 hy
  obtain ⟨i, hi, rfl⟩ := List.getElem_of_mem hp
  refine h i hi y ?_
  simpa [List.getD, hi] using hy
theorem flat_len {α : Type} {ps : List α} {f : α → List Int} {m : Nat} (h : ∀ p, (f p).length = m) : (ps.flatMap f).length = m * ps.length := by
  induction ps with
  | nil => simp
  | cons p r ih => rw [List.flatMap_cons, List.length_append, ih, h, List.length_cons, Nat.mul_succ]; omega
theorem in2 {a b : Int} (ha : Nm a) (hb : Nm b) : ∀ y ∈ row2 (a, b), Nm y := by
  intro y hy
  simp only [row2, List.mem_cons, List.not_mem_nil, or_false] at hy
  rcases hy with rfl | rfl <;> assumption
theorem nums_in {b : Bk} (h : Lists b) : ∀ y ∈ nums b, Nm y := by
  obtain ⟨h1, h2, h3, h4, h5, h6⟩ := h
  have l1 := h1.1
  have l2 := h2.1
  have l3 := h3.1
  have l4 := h4.1
  have l5 := h5.1
  have c1 : ∀ y ∈ b.ac.flatMap row2, Nm y := flat_all (d := (0, 0)) fun i hi y hy => by
    obtain ⟨a1, a2, _⟩ := h1.2 i hi
    change y ∈ row2 (Chart.el b.ac i) at hy
    generalize Chart.el b.ac i = p at *
    obtain ⟨p0, p1⟩ := p
    simp only at a1 a2
    exact in2 ⟨by omega, by omega⟩ ⟨by omega, by omega⟩ y hy
  have c2 : ∀ y ∈ b.ic.flatMap row2, Nm y := flat_all (d := (0, 0)) fun i hi y hy => by
    obtain ⟨a1, a2, _⟩ := h2.2 i hi
    change y ∈ row2 (Chart.el b.ic i) at hy
    generalize Chart.el b.ic i = p at *
    obtain ⟨p0, p1⟩ := p
    simp only at a1 a2
    exact in2 ⟨by omega, by omega⟩ ⟨by omega, by omega⟩ y hy
  have c3 : ∀ y ∈ b.bs.flatMap row3, Nm y := flat_all (d := (0, 0, 0)) fun i hi y hy => by
    obtain ⟨a1, a2, a3, _⟩ := h3.2 i hi
    change y ∈ row3 (el3 b.bs i) at hy
    generalize el3 b.bs i = p at *
    obtain ⟨p0, p1, p2⟩ := p
    simp only [Bals.NoOk, Bals.Amt] at a1 a2 a3
    simp only [row3, List.mem_cons, List.not_mem_nil, or_false] at hy
    unfold Nm
    omega
  have c4 : ∀ y ∈ b.ls.flatMap row5, Nm y := flat_all (d := (0, 0, 0, 0, 0)) fun i hi y hy => by
    obtain ⟨a1, a2, a3, a4, a5⟩ := (h4.2.1 i hi).1
    change y ∈ row5 (el5 b.ls i) at hy
    generalize el5 b.ls i = p at *
    obtain ⟨p0, p1, p2, p3, p4⟩ := p
    simp only [Lots.NoOk] at a1 a2 a3 a4 a5
    simp only [row5, List.mem_cons, List.not_mem_nil, or_false] at hy
    unfold Nm
    omega
  have c5 : ∀ y ∈ b.ts.flatMap row8, Nm y := flat_all (d := (0, 0, 0, 0, 0, 0, 0, 0)) fun i hi y hy => by
    have a := (h5.2 i hi).1
    change y ∈ row8 (el8 b.ts i) at hy
    generalize el8 b.ts i = p at *
    obtain ⟨p0, p1, p2, p3, p4, p5, p6, p7⟩ := p
    simp only [TOne, Lots.NoOk] at a
    simp only [row8, List.mem_cons, List.not_mem_nil, or_false] at hy
    unfold Nm
    omega
  intro y hy
  unfold nums at hy
  simp only [List.mem_append, List.mem_cons, List.not_mem_nil, or_false] at hy
  rcases hy with ((((((((((rfl | hy) | rfl) | hy) | rfl) | hy) | rfl) | hy) | rfl) | hy) | rfl)
  · unfold Nm; omega
  · exact c1 y hy
  · unfold Nm; omega
  · exact c2 y hy
  · unfold Nm; omega
  · exact c3 y hy
  · unfold Nm; omega
  · exact c4 y hy
  · unfold Nm; omega
  · exact c5 y hy
  · unfold Nm; omega
theorem nums_len {b : Bk} (h : Lists b) : (nums b).length ≤ 100000 := by
  obtain ⟨h1, h2, h3, h4, h5, _⟩ := h
  have l1 := h1.1
  have l2 := h2.1
  have l3 := h3.1
  have l4 := h4.1
  have l5 := h5.1
  unfold nums
  simp only [List.length_append, List.length_cons, List.length_nil, flat_len (f := row2) (m := 2) (fun _ => rfl), flat_len (f := row3) (m := 3) (fun _ => rfl), flat_len (f := row5) (m := 5) (fun _ => rfl), flat_len (f := row8) (m := 8) (fun _ => rfl)]
  omega
theorem nums_get {b : Bk} (h : Lists b) (i : Nat) (hi : i < (nums b).length) : (nums b).getD i 0 ≤ 9223372036854775807 := by
  have := nums_in h ((nums b)[i]) (List.getElem_mem _)
  unfold Nm at this
  simp [List.getD, hi]
  omega
open Classical in
/-- What BooksPack answers. -/
noncomputable def packB (b : Bk) : List Int := if Ok b then numsB (nums b) else []
theorem pack_len (b : Bk) : (packB b).length ≤ 100000000 := by
  unfold packB
  split
  · rename_i ok
    unfold numsB
    split
    · have h := SPuts11.flat_len (nums b) (nums_get ok.1) (nums b).length (Nat.le_refl _)
      rw [List.take_length] at h
      have := nums_len ok.1
      omega
    · simp
  · simp
set_option maxRecDepth 100000 in
set_option maxHeartbeats 4000000 in
theorem sBooksPack (w : World) (x : Bx) (b : Bool) (h : Rd w x) (hb : Says b (Ok x.b)) :
    Calls Tryz.prog 6 #[.agg #[.slice (some ⟨x.ga, 0, none⟩) x.b.ac.length x.ca, .slice (some ⟨x.gi, 0, none⟩) x.b.ic.length x.ci, .slice (some ⟨x.gb, 0, none⟩) x.b.bs.length x.cb, .slice (some ⟨x.gl, 0, none⟩) x.b.ls.length x.cl, .slice (some ⟨x.gt, 0, none⟩) x.b.ts.length x.ct, .int .i64 x.b.lot]] w fun e w' => ∃ g c, e = .returned (.tuple #[.slice (some ⟨g, 0, none⟩) (packB x.b).length c, .bool b]) ∧ ByteH.Own w' w.heap.size g (packB x.b).length c (packB x.b) ∧ Below w.heap.size w w' := by
  have S0 := hide (St.start h 39)
  have HB := hide hb
  cases b with
  | false =>
    have e : packB x.b = [] := if_neg (fun r => by have := hb.of r; simp at this)
    rw [e]
    clear e h hb
    have s0 := (unhide S0).c
    obtain ⟨c0, c1, c2, c3, c4, c5⟩ := s0
    go_enter Tryz.func6, Tryz.ntmps6
    go_wp2_with fail
    refine (SBooksOk.sBooksOk _ x false (unhide S0).r (unhide HB)).mono ?_
    rintro e u ⟨rfl, bb⟩
    have S1 := hide ((unhide S0).step bb)
    have us := bb.size
    clear bb
    have O5 := hide (lit0 u w.heap.size (by have := (unhide S1).b.size; omega) rfl)
    have B5 := hide ((unhide S1).b.alloc (by have := (unhide S1).b.size; omega) (.cells #[] 5))
    go_wp2
    go_ret2
    exact ⟨_, 0, rfl, unhide O5, unhide B5⟩
  | true =>
    have ok := hb.yes
    have e : packB x.b = numsB (nums x.b) := if_pos ok
    rw [e]
    have li := ok.1
    have SN := hide (fun u h => sNums u x h (fun i hi => (li.2.2.1.2 i hi).2.2.1))
    have SP := hide (fun u g c hg hr => sPutNums u g c (nums x.b) (by have := nums_len li; omega) hg hr (nums_get li))
    clear e h hb ok li
    obtain ⟨c0, c1, c2, c3, c4, c5⟩ := (unhide S0).c
    generalize nums x.b = ys at *
    go_enter Tryz.func6, Tryz.ntmps6
    go_wp2_with fail
    refine (SBooksOk.sBooksOk _ x true (unhide S0).r (unhide HB)).mono ?_
    rintro e u ⟨rfl, bb⟩
    have S1 := hide ((unhide S0).step bb)
    clear bb c0 c1 c2 c3 c4 c5
    obtain ⟨c0, c1, c2, c3, c4, c5⟩ := (unhide S1).c
    go_wp2_with fail
    refine ((unhide SN) _ (unhide S1).r).mono ?_
    rintro e u2 ⟨g2, k2, rfl, o2, b2⟩
    have S2 := hide ((unhide S1).step b2)
    have O2 := hide o2
    clear o2 b2 S1 S0
    go_wp2_with fail
    refine ((unhide SP) _ g2 k2 (unhide O2).lt.2 (unhide O2).at).mono ?_
    rintro e u3 ⟨g3, k3, rfl, o3, b3⟩
    have O3 := hide (o3.mono (base' := w.heap.size) (by have := (unhide S2).b.size; omega))
    have B3 := hide ((unhide S2).b.trans (b3.mono (by have := (unhide S2).b.size; omega)))
    clear o3 b3
    go_wp2
    go_ret2
    exact ⟨g3, k3, rfl, unhide O3, unhide B3⟩
set_option maxRecDepth 100000 in
theorem sBooksSize (w : World) (x : Bx) (b : Bool) (h : Rd w x) (hb : Says b (Ok x.b)) :
    Calls Tryz.prog 14 #[.agg #[.slice (some ⟨x.ga, 0, none⟩) x.b.ac.length x.ca, .slice (some ⟨x.gi, 0, none⟩) x.b.ic.length x.ci, .slice (some ⟨x.gb, 0, none⟩) x.b.bs.length x.cb, .slice (some ⟨x.gl, 0, none⟩) x.b.ls.length x.cl, .slice (some ⟨x.gt, 0, none⟩) x.b.ts.length x.ct, .int .i64 x.b.lot]] w fun e w' => e = .returned (.int .i64 (if b = true then ((packB x.b).length : Int) else -1)) ∧ Below w.heap.size w w' := by
  have S0 := hide (St.start h 39)
  have PK := hide (fun u h => sBooksPack u x b h hb)
  clear h hb
  obtain ⟨c0, c1, c2, c3, c4, c5⟩ := (unhide S0).c
  cases b with
  | false =>
    go_enter Tryz.func14, Tryz.ntmps14
    go_wp2_with fail
    refine ((unhide PK) _ (unhide S0).r).mono ?_
    rintro e u ⟨g, c, rfl, _, bb⟩
    have S1 := hide ((unhide S0).step bb)
    clear bb
    go_wp2
    go_ret
    exact ⟨rfl, (unhide S1).b⟩
  | true =>
    go_enter Tryz.func14, Tryz.ntmps14
    go_wp2_with fail
    refine ((unhide PK) _ (unhide S0).r).mono ?_
    rintro e u ⟨g, c, rfl, _, bb⟩
    have S1 := hide ((unhide S0).step bb)
    clear bb
    go_wp2
    go_ret
    exact ⟨rfl, (unhide S1).b⟩
end Go.Proofs.YtefcigaalgfmiaaGreat.SPack13
namespace Go.Proofs.YtefcigaalgfmiaaGreat.IBooksOk
open Go.ChangeShapes Go.WideShapes Go.ChangeAt Go.RowKit BMem Bks IRead IHave ITrade ILists IBalsFit ILotsFit ITradesFit
open Lots (Says says_of NoOk)
set_option maxRecDepth 100000 in
set_option maxHeartbeats 2000000 in
theorem iBooksOk (w : World) (x : Bx) (b : Bool) (h : Rd w x) (hb : Says b (Ok x.b)) :
    Calls Tryz.prog 92 #[.agg #[.slice (some ⟨x.ga, 0, none⟩) x.b.ac.length x.ca, .slice (some ⟨x.gi, 0, none⟩) x.b.ic.length x.ci, .slice (some ⟨x.gb, 0, none⟩) x.b.bs.length x.cb, .slice (some ⟨x.gl, 0, none⟩) x.b.ls.length x.cl, .slice (some ⟨x.gt, 0, none⟩) x.b.ts.length x.ct, .int .i64 x.b.lot]] w fun e w' => e = .returned (.bool b) ∧ Below w.heap.size w w' := by
  have T := hide hb
  have S0 := hide (St.start h 39)
  obtain ⟨b0, h0⟩ := says_of (Lists x.b)
  obtain ⟨b1, h1⟩ := says_of (BalsFit x.b)
  obtain ⟨b2, h2⟩ := says_of (LotsFit x.b)
  obtain ⟨b3, h3⟩ := says_of (TradesFit x.b)
  have H0 := hide h0
  have H1 := hide h1
  have H2 := hide h2
  have H3 := hide h3
  clear hb h h0 h1 h2 h3
  go_enter Tryz.func92, Tryz.ntmps92
  go_wp2_with fail
  refine (iLists _ x b0 (unhide S0).r (unhide H0)).mono ?_
  rintro e w1 ⟨rfl, bb⟩
  have S1 := hide ((unhide S0).step bb)
  clear bb
  obtain ⟨c0, c1, c2, c3, c4, c5⟩ := (unhide S1).c
  cases b0
  · have F := hide ((unhide T).not (fun hh => (unhide H0).no hh.1))
    clear T
    go_wp2
    go_ret
    exact ⟨by rw [unhide F]; rfl, (unhide S1).b⟩
  go_wp2_with fail
  refine (iBalsFit _ x b1 (unhide S1).r (unhide H0).yes (unhide H1)).mono ?_
  rintro e w2 ⟨rfl, bb⟩
  have S2 := hide ((unhide S1).step bb)
  clear bb
  clear c0 c1 c2 c3 c4 c5
  obtain ⟨c0, c1, c2, c3, c4, c5⟩ := (unhide S2).c
  cases b1
  · have F := hide ((unhide T).not (fun hh => (unhide H1).no hh.2.1))
    clear T
    go_wp2
    go_ret
    exact ⟨by rw [unhide F]; rfl, (unhide S2).b⟩
  go_wp2_with fail
  refine (iLotsFit _ x b2 (unhide S2).r (unhide H0).yes (unhide H2)).mono ?_
  rintro e w3 ⟨rfl, bb⟩
  have S3 := hide ((unhide S2).step bb)
  clear bb
  clear c0 c1 c2 c3 c4 c5
  obtain ⟨c0, c1, c2, c3, c4, c5⟩ := (unhide S3).c
  cases b2
  · have F := hide ((unhide T).not (fun hh => (unhide H2).no hh.2.2.1))
    clear T
    go_wp2
    go_ret
    exact ⟨by rw [unhide F]; rfl, (unhide S3).b⟩
  go_wp2_with fail
  refine (iTradesFit _ x b3 (unhide S3).r (unhide H0).yes (unhide H3)).mono ?_
  rintro e w4 ⟨rfl, bb⟩
  have S4 := hide ((unhide S3).step bb)
  clear bb
  clear c0 c1 c2 c3 c4 c5
  obtain ⟨c0, c1, c2, c3, c4, c5⟩ := (unhide S4).c
  cases b3
  · have F := hide ((unhide T).not (fun hh => (unhide H3).no hh.2.2.2))
    clear T
    go_wp2
    go_ret
    exact ⟨by rw [unhide F]; rfl, (unhide S4).b⟩
  have F := hide ((unhide T).of ⟨(unhide H0).yes, (unhide H1).yes, (unhide H2).yes, (unhide H3).yes⟩)
  clear T
  go_wp2
  go_ret
  exact ⟨by rw [unhide F]; rfl, (unhide S4).b⟩
end Go.Proofs.YtefcigaalgfmiaaGreat.IBooksOk
namespace Go.Proofs.YtefcigaalgfmiaaGreat.IPack13
open Go.ChangeShapes Go.WideShapes Go.ChangeAt Go.RowKit BMem Bks SPuts11 SNums13 SPack13
open IBalsFit (St one_more)
open IRead (enters)
open Lots (Says says_of)
open SPut11 (lit0)
theorem me_fits (v : Value) (w : World) : (Go.method 289 39 v "loop.example/g00110/impl.fits").run Tryz.prog w = .ok (90, v) w := by kernel_rfl
theorem me_nums (v : Value) (w : World) : (Go.method 289 39 v "loop.example/g00110/impl.numbers").run Tryz.prog w = .ok (91, v) w := by kernel_rfl
theorem en_fits (args : Array Value) (u : World) : (callFunc 90 args).run Tryz.prog u = .ok (.enter 90 args) u := enters Tryz.func90 (by kernel_rfl) rfl _ _
theorem en_nums (args : Array Value) (u : World) : (callFunc 91 args).run Tryz.prog u = .ok (.enter 91 args) u := enters Tryz.func91 (by kernel_rfl) rfl _ _
set_option maxRecDepth 100000 in
theorem fitsB (w : World) (x : Bx) (b : Bool) (h : Rd w x) (hb : Says b (Ok x.b)) :
    Calls Tryz.prog 90 #[.agg #[.slice (some ⟨x.ga, 0, none⟩) x.b.ac.length x.ca, .slice (some ⟨x.gi, 0, none⟩) x.b.ic.length x.ci, .slice (some ⟨x.gb, 0, none⟩) x.b.bs.length x.cb, .slice (some ⟨x.gl, 0, none⟩) x.b.ls.length x.cl, .slice (some ⟨x.gt, 0, none⟩) x.b.ts.length x.ct, .int .i64 x.b.lot]] w fun e w' => e = .returned (.bool b) ∧ Below w.heap.size w w' := by
  have S0 := hide (St.start h 39)
  have HB := hide hb
  clear h hb
  obtain ⟨c0, c1, c2, c3, c4, c5⟩ := (unhide S0).c
  go_enter Tryz.func90, Tryz.ntmps90
  go_wp2_with fail
  refine (IBooksOk.iBooksOk _ x b (unhide S0).r (unhide HB)).mono ?_
  rintro e u ⟨rfl, bb⟩
  have S1 := hide ((unhide S0).step bb)
  clear bb
  go_wp2
  go_ret
  exact ⟨rfl, (unhide S1).b⟩
set_option maxRecDepth 100000 in
theorem packedB (w : World) (x : Bx) (b : Bool) (h : Rd w x) (hb : Says b (Ok x.b)) :
    Calls Tryz.prog 29 #[.iface 39 (.agg #[.slice (some ⟨x.ga, 0, none⟩) x.b.ac.length x.ca, .slice (some ⟨x.gi, 0, none⟩) x.b.ic.length x.ci, .slice (some ⟨x.gb, 0, none⟩) x.b.bs.length x.cb, .slice (some ⟨x.gl, 0, none⟩) x.b.ls.length x.cl, .slice (some ⟨x.gt, 0, none⟩) x.b.ts.length x.ct, .int .i64 x.b.lot])] w fun e w' => ∃ a c, e = .returned (.tuple #[.slice a (packB x.b).length c, .bool b]) ∧ VOB.Ob w' w.heap.size a (packB x.b).length c (packB x.b) ∧ Below w.heap.size w w' := by
  have m1 := me_fits
  have m2 := en_fits
  have m3 := me_nums
  have m4 := en_nums
  have FR := hide (fitsB w x b h hb)
  have R := hide h
  have HB := hide hb
  clear h hb
  cases b with
  | false =>
    have e : packB x.b = [] := if_neg (fun r => by have := (unhide HB).of r; simp at this)
    rw [e]
    clear e
    go_enter Tryz.func29, Tryz.ntmps29
    go_wp2_with fail
    refine (unhide FR).mono ?_
    rintro e u1 ⟨rfl, bb⟩
    have B1 := hide bb
    have O1 := hide (lit0 u1 w.heap.size bb.size rfl)
    clear bb
    go_wp2
    go_ret2
    exact ⟨_, 0, rfl, VOB.Ob.of (unhide O1), (unhide B1).alloc (unhide B1).size _⟩
  | true =>
    have ok := (unhide HB).yes
    have e : packB x.b = numsB (nums x.b) := if_pos ok
    rw [e]
    have li := ok.1
    have SN := hide (fun u h => INums13.iNums u x h (fun i hi => (li.2.2.1.2 i hi).2.2.1))
    have SP := hide (fun u g c hg hr => IPuts11.iPutNums u g c (nums x.b) (by have := nums_len li; omega) hg hr (nums_get li))
    clear e ok li
    generalize nums x.b = ys at *
    go_enter Tryz.func29, Tryz.ntmps29
    go_wp2_with fail
    refine (unhide FR).mono ?_
    rintro e u1 ⟨rfl, bb⟩
    have B1 := hide bb
    have R1 := hide ((unhide R).below bb)
    clear bb
    go_wp2_with fail
    refine ((unhide SN) u1 (unhide R1)).mono ?_
    rintro e u2 ⟨g2, k2, rfl, o2, bb⟩
    have B2 := hide ((unhide B1).trans (bb.mono (unhide B1).size))
    have O2 := hide o2
    clear o2 bb
    go_wp2_with fail
    refine ((unhide SP) u2 g2 k2 (unhide O2).lt.2 (unhide O2).at).mono ?_
    rintro e u3 ⟨a3, k3, rfl, o3, bb⟩
    have B3 := hide ((unhide B2).trans (bb.mono (unhide B2).size))
    have O3 := hide (o3.mono (unhide B2).size)
    clear bb o3
    go_wp2
    go_ret2
    exact ⟨a3, k3, rfl, unhide O3, unhide B3⟩
set_option maxRecDepth 100000 in
theorem iBooksPack (w : World) (x : Bx) (b : Bool) (h : Rd w x) (hb : Says b (Ok x.b)) :
    Calls Tryz.prog 8 #[.agg #[.slice (some ⟨x.ga, 0, none⟩) x.b.ac.length x.ca, .slice (some ⟨x.gi, 0, none⟩) x.b.ic.length x.ci, .slice (some ⟨x.gb, 0, none⟩) x.b.bs.length x.cb, .slice (some ⟨x.gl, 0, none⟩) x.b.ls.length x.cl, .slice (some ⟨x.gt, 0, none⟩) x.b.ts.length x.ct, .int .i64 x.b.lot]] w fun e w' => ∃ a c, e = .returned (.tuple #[.slice a (packB x.b).length c, .bool b]) ∧ VOB.Ob w' w.heap.size a (packB x.b).length c (packB x.b) ∧ Below w.heap.size w w' := by
  have S0 := hide (St.start h 39)
  have PK := hide (fun u h => packedB u x b h hb)
  clear h hb
  obtain ⟨c0, c1, c2, c3, c4, c5⟩ := (unhide S0).c
  go_enter Tryz.func8, Tryz.ntmps8
  go_wp2_with fail
  refine ((unhide PK) _ (unhide S0).r).mono ?_
  rintro e u ⟨a, c, rfl, o, bb⟩
  have S1 := hide ((unhide S0).step bb)
  have O1 := hide (o.mono (Nat.le_of_lt (unhide S0).s))
  clear bb o c0 c1 c2 c3 c4 c5
  go_wp2
  go_ret2
  exact ⟨a, c, rfl, unhide O1, (unhide S1).b⟩
set_option maxRecDepth 100000 in
theorem iBooksSize (w : World) (x : Bx) (b : Bool) (h : Rd w x) (hb : Says b (Ok x.b)) :
    Calls Tryz.prog 15 #[.agg #[.slice (some ⟨x.ga, 0, none⟩) x.b.ac.length x.ca, .slice (some ⟨x.gi, 0, none⟩) x.b.ic.length x.ci, .slice (some ⟨x.gb, 0, none⟩) x.b.bs.length x.cb, .slice (some ⟨x.gl, 0, none⟩) x.b.ls.length x.cl, .slice (some ⟨x.gt, 0, none⟩) x.b.ts.length x.ct, .int .i64 x.b.lot]] w fun e w' => e = .returned (.int .i64 (if b = true then ((packB x.b).length : Int) else -1)) ∧ Below w.heap.size w w' := by
  have S0 := hide (St.start h 39)
  have PK := hide (fun u h => iBooksPack u x b h hb)
  clear h hb
  obtain ⟨c0, c1, c2, c3, c4, c5⟩ := (unhide S0).c
  cases b with
  | false =>
    go_enter Tryz.func15, Tryz.ntmps15
    go_wp2_with fail
    refine ((unhide PK) _ (unhide S0).r).mono ?_
    rintro e u ⟨g, c, rfl, _, bb⟩
    have S1 := hide ((unhide S0).step bb)
    clear bb
    go_wp2
    go_ret
    exact ⟨rfl, (unhide S1).b⟩
  | true =>
    go_enter Tryz.func15, Tryz.ntmps15
    go_wp2_with fail
    refine ((unhide PK) _ (unhide S0).r).mono ?_
    rintro e u ⟨g, c, rfl, _, bb⟩
    have S1 := hide ((unhide S0).step bb)
    clear bb
    go_wp2
    go_ret
    exact ⟨rfl, (unhide S1).b⟩
end Go.Proofs.YtefcigaalgfmiaaGreat.IPack13
