/- Contract of the program's restOrder: a new list with the numbers of all rests in their order. Conditions: at least one rest and at most 40, in memory where the function looks. -/
import Derived.Test.YtdnpjjbphamcmaaLay
import Derived.Test.YtdnpjjbphamcmaaICmp
import Derived.WalkSmall
namespace Go.Proofs.Ytdnpjjbphamcmaa.ISort
open Go.ChangeShapes Go.WideShapes Go.ChangeAt Go.RowKit Ints Weigh Quota Order ICmp
open Go.Sort (putRow putCells mapBlock onCells Holds SWO PermIn SortedIn grow)
set_option linter.unusedVariables false
set_option linter.unusedSimpArgs false

/-- A number as the memory holds it. -/
def enc {n : Nat} (x : Fin n) : Value := .int .i64 ((x.val : Nat) : Int)

theorem swo (t : Int) (xs : List Int) (m : Nat) : SWO (ltOf (cf t xs (n := m))) where
  irrefl x := by
    unfold ltOf
    rw [decide_eq_false_iff_not, cf_neg]
    intro h; exact h.asymm h
  trans x y z h1 h2 := by
    unfold ltOf at *
    rw [decide_eq_true_eq, cf_neg] at *
    unfold Ahead at *
    omega
  ntrans x y z h1 h2 := by
    unfold ltOf at *
    rw [decide_eq_false_iff_not, cf_neg] at *
    unfold Ahead at *
    omega

theorem sortWorld_other {n : Nat} [Inhabited (Fin n)] (w : World) (blk q : Nat) (d : Array (Fin n)) (os : Array Obj) (k : Nat) (hk : k < w.heap.size) (hne : k ≠ blk) : (sortWorld enc w blk 0 q d os).heap[k]? = w.heap[k]? := by
  have h1 : (sortWorld enc w blk 0 q d os).heap = (w.heap.modify blk (onCells (putCells enc 0 d))) ++ os := rfl
  rw [h1, Array.getElem?_append_left (by simpa using hk), Array.getElem?_modify, if_neg (Ne.symm hne)]

theorem sortWorld_same {n : Nat} [Inhabited (Fin n)] (w : World) (blk q : Nat) (d : Array (Fin n)) (os : Array Obj) (cur : Array Value) (e : TypeId) (fr : Nat × Nat) (h : w.heap[blk]? = some (.cells cur e fr)) : (sortWorld enc w blk 0 q d os).heap[blk]? = some (.cells (putCells enc 0 d cur) e fr) := by
  have h1 : (sortWorld enc w blk 0 q d os).heap = (w.heap.modify blk (onCells (putCells enc 0 d))) ++ os := rfl
  have hb : blk < w.heap.size := (Array.getElem?_eq_some_iff.1 h).1
  rw [h1, Array.getElem?_append_left (by simpa using hb), Array.getElem?_modify, if_pos rfl, h]
  rfl

theorem sortWorld_below {n : Nat} [Inhabited (Fin n)] (w : World) (blk q : Nat) (d : Array (Fin n)) (os : Array Obj) (hb : blk < w.heap.size) : Below blk w (sortWorld enc w blk 0 q d os) := by
  refine ⟨rfl, rfl, rfl, ?_, fun k hk => ?_⟩
  · have h1 : (sortWorld enc w blk 0 q d os).heap = (w.heap.modify blk (onCells (putCells enc 0 d))) ++ os := rfl
    rw [h1]; simp
  · exact sortWorld_other w blk q d os k (by omega) (by omega)

theorem putCells_all {n : Nat} [Inhabited (Fin n)] (d : Array (Fin n)) (cur : Array Value) (h : cur.size = d.size) : (putCells enc 0 d cur).toList = (ints (d.toList.map Fin.val)).map (Value.int .i64) := by
  apply List.ext_getElem?
  intro i
  by_cases hi : i < d.size
  · have e1 : (putCells enc 0 d cur).toList[i]? = some (enc d[i]!) := by
      simp [putCells, hi, h]
    rw [e1, getElem!_pos d i hi]
    simp [ints, hi, enc]
  · have e1 : (putCells enc 0 d cur).toList[i]? = none := by
      simp [putCells]; omega
    rw [e1, List.getElem?_eq_none (by simp [ints]; omega)]

theorem own_sorted {m : Nat} (w : World) (base blk q : Nat) (d : Array (Fin (m + 1))) (os : Array Obj) (xs : List Int) (hd : d.size = m + 1) (h : Own w base blk (m + 1) (m + 1) xs) :
    Own (sortWorld enc w blk 0 q d os) base blk (m + 1) (m + 1) (ints (d.toList.map Fin.val)) := by
  refine ⟨by simp [ints, hd], ?_⟩
  rcases h.2 with ⟨z, _⟩ | ⟨g', c, cur, z, hb, hc, h1, h2, h3, h4⟩
  · simp at z
  · obtain ⟨rfl, rfl⟩ : blk = g' ∧ m + 1 = c := by simpa using z
    refine Or.inr ⟨blk, m + 1, _, rfl, hb, sortWorld_same w blk q d os cur 3 (0, 0) hc, Nat.le_refl _, h2, by simpa [putCells] using h3, ?_⟩
    rw [putCells_all d cur (by rw [hd]; simpa using h3), List.take_of_length_le (by simp [ints, hd])]

theorem sortWorld_cell {n : Nat} [Inhabited (Fin n)] (w : World) (blk q : Nat) (d : Array (Fin n)) (os : Array Obj) (p : Addr) (hb : p.block < w.heap.size) (hne : p.block ≠ blk) : (sortWorld enc w blk 0 q d os).cell? p = w.cell? p :=
  World.cell?_of_block (sortWorld_other w blk q d os p.block hb hne)

theorem cmpLays (t : Int) (xs : List Int) (m g bx blk size : Nat) (w : World) (h40 : m + 1 ≤ 40) (hg : g < w.heap.size) (hbx : bx < w.heap.size) (n1 : g ≠ blk) (n2 : bx ≠ blk)
    (hx : w.cell? ⟨bx, 0, none⟩ = some (.slice (some ⟨g, 0, none⟩) (m + 1) (m + 1))) (hr : At w g (rests t xs (m + 1))) :
    CmpLays1 Try.prog 92 #[.pointer (some ⟨bx, 0, none⟩)] (enc (n := m + 1)) (cf t xs) blk 0 size w := by
  intro q os d hd x y
  have k1 := hr x.val (by rw [rests_len]; exact x.isLt)
  have k2 := hr y.val (by rw [rests_len]; exact y.isLt)
  rw [rests_getD t xs (m + 1) _ x.isLt] at k1
  rw [rests_getD t xs (m + 1) _ y.isLt] at k2
  exact iCloses (sortWorld enc w blk 0 q d os) x.val y.val (m + 1) g bx (R t xs x.val) (R t xs y.val) x.isLt y.isLt (by omega)
    ((sortWorld_cell w blk q d os _ hbx n2).trans hx) ((sortWorld_cell w blk q d os _ hg n1).trans k1) ((sortWorld_cell w blk q d os _ hg n1).trans k2)

theorem holds_all (m blk : Nat) (w : World) (base : Nat) (h : Own w base blk (m + 1) (m + 1) (ints (List.range (m + 1)))) : Holds (enc (n := m + 1)) w blk 0 (allOf (m + 1)) := by
  intro j hj
  have hj' : j < m + 1 := by simpa [allOf] using hj
  have e := h.at j (by rw [ints_len]; simpa using hj')
  refine ⟨?_, by simpa using h.free (0 + j)⟩
  rw [Nat.zero_add, e, ints_getD, getElem!_pos (allOf (m + 1)) j hj]
  simp [allOf, enc, List.getD, hj']

/-- The library's sort at the program's comparison. -/
theorem sorts (t : Int) (xs : List Int) (m g bx blk base : Nat) (w : World) (h40 : m + 1 ≤ 40) (hg : g < w.heap.size) (hbx : bx < w.heap.size) (n1 : g ≠ blk) (n2 : bx ≠ blk)
    (hx : w.cell? ⟨bx, 0, none⟩ = some (.slice (some ⟨g, 0, none⟩) (m + 1) (m + 1))) (hr : At w g (rests t xs (m + 1))) (ho : Own w base blk (m + 1) (m + 1) (ints (List.range (m + 1)))) :
    Calls Try.prog 99 #[.slice (some ⟨blk, 0, none⟩) (m + 1) (m + 1), .func (.func 92) #[] #[.pointer (some ⟨bx, 0, none⟩)]] w fun e w' =>
      e = .returned (.tuple #[]) ∧ ∃ L, IsOrder t xs (m + 1) L ∧ Own w' base blk (m + 1) (m + 1) (ints L) ∧ Below blk w w' := by
  have hn : (allOf (m + 1)).size = m + 1 := by simp [allOf]
  have eg : ∀ args w, (callFunc 92 args).run Try.prog w = .ok (.enter 92 args) w := enters_of Try.func92 (by kernel_rfl) rfl
  have hc := cmpLays t xs m g bx blk (allOf (m + 1)).size w h40 hg hbx n1 n2 hx hr
  have hcon := Any.slices_SortFunc Try.sortL (enc (n := m + 1)) (fun _ => rfl) (cf t xs) (swo t xs (m + 1)) 92 #[.pointer (some ⟨bx, 0, none⟩)] blk 0 (m + 1) (allOf (m + 1)) w eg hc (holds_all m blk w base ho) ho.lt.2 (by rw [hn]; omega)
  change Calls Try.prog 99 _ _ _ at hcon
  have e : (Value.slice (some ⟨blk, 0, none⟩) (m + 1) (m + 1)) = .slice (some ⟨blk, 0, none⟩) (allOf (m + 1)).size (m + 1) := congrArg (fun k => Value.slice (some ⟨blk, 0, none⟩) k (m + 1)) hn.symm
  rw [e]
  refine hcon.mono ?_
  rintro e w' ⟨rfl, d', q, os, hp, hs, rfl⟩
  have hd : d'.size = m + 1 := hp.1.trans hn
  exact ⟨rfl, _, isOrder_of_sorted t xs m d' hp hs, own_sorted w base blk q d' os _ hd ho, sortWorld_below w blk q d' os ho.lt.2⟩

set_option maxRecDepth 100000 in
set_option maxHeartbeats 800000 in
theorem iSorted (t : Int) (xs : List Int) (m g bx : Nat) (w : World) (h40 : m + 1 ≤ 40) (hg : g < w.heap.size) (hbx : bx < w.heap.size)
    (hx : w.cell? ⟨bx, 0, none⟩ = some (.slice (some ⟨g, 0, none⟩) (m + 1) (m + 1))) (hr : At w g (rests t xs (m + 1))) :
    Calls Try.prog 91 #[.int .i64 ((m + 1 : Nat) : Int), .func (.func 92) #[] #[.pointer (some ⟨bx, 0, none⟩)]] w fun e w' =>
      ∃ L, IsOrder t xs (m + 1) L ∧ e = .returned (.slice (some ⟨w.heap.size, 0, none⟩) (m + 1) (m + 1)) ∧ Own w' w.heap.size w.heap.size (m + 1) (m + 1) (ints L) ∧ Below w.heap.size w w' := by
  obtain ⟨n, hn⟩ : ∃ n, n = m + 1 := ⟨_, rfl⟩
  have n40 : n ≤ 40 := by omega
  have HX := hide hx
  have HR := hide hr
  have HG := hide hg
  have HBX := hide hbx
  have HN := hide hn
  rw [← hn]
  clear hx hr hg hbx hn h40
  obtain ⟨i0, hi, hz0, hz1, hz2⟩ := info_parts info3
  go_enter Try.func91, Try.ntmps91
  go_wp2_with (at_make; refine wpList_make_full _ rfl _ _ 50 rfl w.heap.size 3 i0 (.int .i64 0) 1 Try.underlying50 hi hz0 hz1 .i64 .i64 _ _ n rfl rfl rfl rfl (by rw [hz2]; omega) (by unfold maxLen; omega) (Nat.le_refl _) ?_; intro w1 hown hgrow)
  rw [made_zeros, ← part_zero (ints (List.range n))] at hown
  have hb := grownBy_below hgrow
  clear hgrow
  have hlr : (ints (List.range n)).length = n := by simp [ints]
  go_loopw [11] (fun i wr => ∃ (k : Nat), k ≤ n ∧ i = .int .i64 k ∧ Own wr w.heap.size w.heap.size n n (Ints.part (ints (List.range n)) n k) ∧ Below w.heap.size w wr) (fun i _ => n - (intOf i).toNat)
  case atStart => exact ⟨0, by omega, rfl, hown, hb⟩
  case round =>
    clear hown hb
    obtain ⟨k, hk, rfl, hown, hb⟩ := hrel
    by_cases lt : k < n
    · have hs := hide (Own.set hown k k)
      have hc2 := Own.at hown k (by rw [Own.len hown]; exact lt)
      have hf := Own.free hown k
      have HB := hide hb
      clear hown hb
      generalize (Ints.part (ints (List.range n)) n k).getD k 0 = z at hc2
      go_wp2
      go_roundw
      case rel =>
        obtain ⟨o, q⟩ := unhide hs
        have e : (ints (List.range n)).getD k 0 = (k : Int) := by rw [ints_getD]; simp [List.getD, lt]
        have o2 := part_step (ints (List.range n)) n k hlr lt
        rw [e] at o2
        rw [o2] at o
        exact ⟨k + 1, by omega, by go_num, o, (unhide HB).setCell (Nat.le_refl _) _⟩
      case measure => simp [intOf]; omega
    · obtain rfl : k = n := by omega
      rw [part_all _ k hlr] at hown
      have c := sorts t xs m g bx w.heap.size w.heap.size wr (by have := unhide HN; omega) (Nat.lt_of_lt_of_le (unhide HG) hb.size) (Nat.lt_of_lt_of_le (unhide HBX) hb.size) (by have := unhide HG; omega) (by have := unhide HBX; omega)
        ((hb.cell (p := ⟨bx, 0, none⟩) (unhide HBX)).trans (unhide HX)) ((unhide HR).below hb (unhide HG)) (by rw [← unhide HN]; exact hown)
      rw [← unhide HN] at c
      have HB := hide hb
      clear hown hb
      go_wp2_with fail
      refine c.mono ?_
      rintro e w2 ⟨rfl, L, ord, o, b⟩
      go_wp2
      go_ret
      exact ⟨L, ord, rfl, o, (unhide HB).trans b⟩

set_option maxRecDepth 100000 in
theorem iRestOrder (t : Int) (xs : List Int) (m g : Nat) (w : World) (h40 : m + 1 ≤ 40) (hg : g < w.heap.size) (hr : At w g (rests t xs (m + 1))) :
    Calls Try.prog 83 #[.slice (some ⟨g, 0, none⟩) (m + 1) (m + 1)] w fun e w' =>
      ∃ L g', IsOrder t xs (m + 1) L ∧ e = .returned (.slice (some ⟨g', 0, none⟩) (m + 1) (m + 1)) ∧ Own w' w.heap.size g' (m + 1) (m + 1) (ints L) ∧ Below w.heap.size w w' := by
  have hb := Below.alloc (Below.refl w.heap.size w) (Nat.le_refl _) (.cells #[Value.slice (some ⟨g, 0, none⟩) (m + 1) (m + 1)] 50)
  have c := iSorted t xs m g w.heap.size (w.alloc (.cells #[Value.slice (some ⟨g, 0, none⟩) (m + 1) (m + 1)] 50)) h40 (by simp; omega) (by simp) (by simp) (hr.below hb hg)
  have HB := hide hb
  clear hb hr
  go_enter Try.func83, Try.ntmps83
  go_wp2_with fail
  refine c.mono ?_
  rintro e w2 ⟨L, ord, rfl, o, b⟩
  rw [World.size_alloc] at o b
  go_wp2
  go_ret
  exact ⟨L, w.heap.size + 1, ord, rfl, Own.mono o (by omega), (unhide HB).trans (b.mono (by omega))⟩

end Go.Proofs.Ytdnpjjbphamcmaa.ISort
