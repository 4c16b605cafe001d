/- Texts of one proof, one behind the other: LegHelp, LegHeld, LawN, LayN, SortN, TabN, EntryN, Errs, PostMore, Net, NetT, SNetL, NetLegsI, LaidE. -/
import Derived.Test.YtpkgkekonhgonaaGreatDoorRows
import Derived.Test.YtpkgkekonhgonaaGreatDoorCards
import Derived.Test.YtpkgkekonhgonaaGreatDoorTie
import Derived.Test.YtpkgkekonhgonaaGreatDoorNA1
import Derived.Test.YtpkgkekonhgonaaGreatDoorNA2
import Derived.Test.YtpkgkekonhgonaaGreatDoorNL3
import Derived.Test.YtpkgkekonhgonaaGreatDoorNL4
import Derived.Test.YtpkgkekonhgonaaGreatDoorNL5
import Derived.Test.YtpkgkekonhgonaaGreatDoorNL6
import Derived.Test.YtpkgkekonhgonaaGreatDoorNL7
import Derived.Deep.RegionHeld3
import Derived.Shelf.SlGeneric
import Derived.Shelf.SlSortCmp.WholeK
import Derived.Ground.SlsfProg
import Derived.Maps.OwnOps
import Derived.Maps.RangeWalk
import Derived.Maps.Ext
import Derived.DeepKeys4
import Derived.WideKeyEntry
import Derived.WalkKit
import Derived.LaidEql
import Derived.Stop.Asserts
import Derived.RowKitTokens
import Derived.Stop.LaidErr
import Derived.ProofKit
import Derived.OpenShut
import Derived.Deep.DeepHandedRow
set_option linter.unusedVariables false
set_option linter.unusedSimpArgs false
namespace Go.Proofs.YtpkgkekonhgonaaGreatDoor.LegHelp
open Go.ChangeShapes Go.WideShapes Go.ChangeAt Go.RowKit Bals Triples
set_option maxRecDepth 100000 in
theorem eq1 (w : World) (x y z : Int) : Calls Tryz.prog 39 #[.agg #[.int .i64 x, .int .i64 y, .int .i64 z], .agg #[.int .i64 x, .int .i64 y, .int .i64 z]] w fun e w' => e = .returned (.bool true) ∧ w' = (w.alloc (.cells #[.int .i64 x, .int .i64 y, .int .i64 z] 67)).alloc (.cells #[.int .i64 x, .int .i64 y, .int .i64 z] 67) := by
  go_enter Tryz.func39, Tryz.ntmps39
  go_wp2
  go_ret
  exact ⟨rfl, rfl⟩
theorem two_more (w : World) (o p : Obj) : Below w.heap.size w ((w.alloc o).alloc p).drew := (((Below.refl _ _).alloc (Nat.le_refl _) _).alloc (by simp) _).drew
set_option maxRecDepth 100000 in
theorem eqS (w : World) (g1 g2 n c1 c2 : Nat) (ps : List T3) (hl : ps.length = n) (h20 : n ≤ 1048576) (l1 : g1 < w.heap.size) (l2 : g2 < w.heap.size) (h1 : At3 w g1 ps) (h2 : At3 w g2 ps) :
    Calls Tryz.prog 10 #[.slice (some ⟨g1, 0, none⟩) n c1, .slice (some ⟨g2, 0, none⟩) n c2] w fun e w' => e = .returned (.bool true) ∧ Below w.heap.size w w' := by
  go_enter Tryz.func10, Tryz.ntmps10
  go_wp2
  go_loopw [5] (fun i wr => ∃ (k : Nat), k ≤ n ∧ i = .int .i64 k ∧ At3 wr g1 ps ∧ At3 wr g2 ps ∧ Below w.heap.size w wr) (fun i _ => n - (intOf i).toNat)
  case atStart => exact ⟨0, by omega, rfl, h1, h2, Below.refl _ _⟩
  case round =>
    clear h1 h2
    obtain ⟨k, hk, rfl, h1, h2, hb⟩ := hrel
    by_cases t : k < n
    · obtain ⟨e1, f1, i1⟩ := h1 k (by omega)
      obtain ⟨e2, f2, i2⟩ := h2 k (by omega)
      have s := hb.size
      have H1 := hide h1
      have H2 := hide h2
      have HB := hide hb
      clear h1 h2 hb
      generalize (el3 ps k).1 = x at *
      generalize (el3 ps k).2.1 = y at *
      generalize (el3 ps k).2.2 = z at *
      go_wp2_with fail
      go_region_held3 (fun w' => w'.cell? ⟨g1, k * 3, none⟩ = some (.int .i64 x) ∧ w'.cell? ⟨g2, k * 3, none⟩ = some (.int .i64 x) ∧ w'.cell? ⟨g1, k * 3 + 1, none⟩ = some (.int .i64 y) ∧ w'.cell? ⟨g2, k * 3 + 1, none⟩ = some (.int .i64 y) ∧ w'.cell? ⟨g1, k * 3 + 2, none⟩ = some (.int .i64 z) ∧ w'.cell? ⟨g2, k * 3 + 2, none⟩ = some (.int .i64 z)) (go_keep)
        (first | (go_at_call 39; refine (eq1 _ _ _ _).mono ?_; rintro e w2 ⟨rfl, rfl⟩))
      all_goals (go_wp2; go_roundw)
      all_goals first
        | (have b2 := two_more wr (.cells #[.int .i64 x, .int .i64 y, .int .i64 z] 67) (.cells #[.int .i64 x, .int .i64 y, .int .i64 z] 67)
           exact ⟨k + 1, by omega, by go_num, (unhide H1).below b2 (by omega), (unhide H2).below b2 (by omega), next (unhide HB) b2⟩)
        | (simp [intOf]; omega)
    · have HB := hide hb
      clear h1 h2 hb
      go_wp2
      go_ret
      exact ⟨rfl, unhide HB⟩
/-- The marks: numbers from s on, three a triple. -/
def marks (s : Int) (n : Nat) : List T3 := (List.range n).map fun (i : Nat) => (s + 3 * (i : Int), s + 3 * (i : Int) + 1, s + 3 * (i : Int) + 2)
theorem marks_len (s : Int) (n : Nat) : (marks s n).length = n := by simp [marks]
theorem marks_getD (s : Int) (n i : Nat) (h : i < n) : el3 (marks s n) i = (s + 3 * (i : Int), s + 3 * (i : Int) + 1, s + 3 * (i : Int) + 2) := by simp [marks, List.getD, h]
/-- The marks so far, and what stood behind. -/
def marked (s : Int) (ps : List T3) (n j : Nat) : List T3 := (marks s n).take j ++ ps.drop j
theorem marked_zero (s : Int) (ps : List T3) (n : Nat) : marked s ps n 0 = ps := by simp [marked]
theorem marked_all (s : Int) (ps : List T3) (n : Nat) (h : ps.length = n) : marked s ps n n = marks s n := by
  unfold marked
  rw [List.take_of_length_le (by rw [marks_len]; exact Nat.le_refl _), List.drop_of_length_le (by omega), List.append_nil]
theorem marked_step (s : Int) (ps : List T3) (n j : Nat) (h : ps.length = n) (hj : j < n) : (((marked s ps n j).modify j fun p => (s + 3 * (j : Int), p.2)).modify j (fun p => (p.1, s + 3 * (j : Int) + 1, p.2.2))).modify j (fun p => (p.1, p.2.1, s + 3 * (j : Int) + 1 + 1)) = marked s ps n (j + 1) := by
  unfold marked
  have l := marks_len s n
  have g := marks_getD s n j hj
  have l1 : ((marks s n).take j).length = j := by simp; omega
  have l2 : ((marks s n).take (j + 1)).length = j + 1 := by simp; omega
  apply List.ext_getElem?
  intro i
  rw [List.getElem?_modify, List.getElem?_modify, List.getElem?_modify]
  by_cases e : j = i
  · subst e
    rw [List.getElem?_append_right (by omega), List.getElem?_append_left (by omega), List.getElem?_take, if_pos (by omega), l1]
    have hg : (marks s n)[j]? = some (s + 3 * (j : Int), s + 3 * (j : Int) + 1, s + 3 * (j : Int) + 2) := by
      rw [← g]; simp [List.getD, l, hj]
    rw [hg]
    simp [List.getElem?_drop, h, hj]
    omega
  · by_cases d : i < j
    · rw [List.getElem?_append_left (by omega), List.getElem?_append_left (by omega), List.getElem?_take, List.getElem?_take, if_pos d, if_pos (by omega)]
      simp [e]
    · rw [List.getElem?_append_right (by omega), List.getElem?_append_right (by omega), l1, l2]
      simp only [List.getElem?_drop]
      rw [show j + (i - j) = i by omega, show j + 1 + (i - (j + 1)) = i by omega]
      simp [e]
set_option maxRecDepth 100000 in
theorem markS (w : World) (base g n cap : Nat) (s : Int) (ps : List T3) (h20 : n ≤ 1048576) (s0 : 0 ≤ s) (s1 : s ≤ 100000000) (ho : Own3 67 w base g n cap ps) :
    Calls Tryz.prog 15 #[.slice (some ⟨g, 0, none⟩) n cap, .int .i64 s] w fun e w' => e = .returned (.int .i64 (s + 3 * (n : Int))) ∧ Own3 67 w' base g n cap (marks s n) ∧ w.grownBy w' (some g) := by
  have hl := ho.len
  have ho' : Own3 67 w base g n cap (marked s ps n 0) := by rw [marked_zero]; exact ho
  clear ho
  go_enter Tryz.func15, Tryz.ntmps15
  go_wp2
  go_loopw [1, 5] (fun m i wr => ∃ (k : Nat), k ≤ n ∧ i = .int .i64 k ∧ m = .int .i64 (s + 3 * (k : Int)) ∧ Own3 67 wr base g n cap (marked s ps n k) ∧ w.grownBy wr (some g)) (fun _ i _ => n - (intOf i).toNat)
  case atStart => exact ⟨0, by omega, rfl, by go_num, ho', World.grownBy.refl _ _⟩
  case round =>
    clear ho'
    obtain ⟨k, hk, rfl, rfl, hown, hg⟩ := hrel
    by_cases t : k < n
    · obtain ⟨o1, q1⟩ := hown.set0 k (s + 3 * (k : Int))
      obtain ⟨o2, q2⟩ := o1.set1 k (s + 3 * (k : Int) + 1)
      obtain ⟨o3, q3⟩ := o2.set2 k (s + 3 * (k : Int) + 1 + 1)
      obtain ⟨hd0, hd1, hd2⟩ := hown.at k (by rw [Own3.len hown]; exact t)
      have hf0 := hown.free (k * 3)
      have hf1 := hown.free (k * 3 + 1)
      have hf2 := hown.free (k * 3 + 2)
      rw [marked_step s ps n k hl t] at o3
      have HO := hide o3
      have HG := hide (grown_trans (grown_trans (grown_trans hg q1) q2) q3)
      clear hown hg o1 q1 o2 q2 o3 q3
      generalize (el3 (marked s ps n k) k).1 = z0 at hd0
      generalize (el3 (marked s ps n k) k).2.1 = z1 at hd1
      generalize (el3 (marked s ps n k) k).2.2 = z2 at hd2
      have r1 : IntKind.i64.wrap (s + 3 * (k : Int) + 1) = s + 3 * (k : Int) + 1 := by rw [IntKind.wrap_i64]; omega
      have r2 : IntKind.i64.wrap (s + 3 * (k : Int) + 1 + 1) = s + 3 * (k : Int) + 1 + 1 := by rw [IntKind.wrap_i64]; omega
      have r3 : IntKind.i64.wrap (s + 3 * (k : Int) + 1 + 1 + 1) = s + 3 * (k : Int) + 1 + 1 + 1 := by rw [IntKind.wrap_i64]; omega
      go_wp2
      go_roundw
      case rel => exact ⟨k + 1, by omega, by go_num, by go_num, unhide HO, unhide HG⟩
      case measure => simp [intOf]; omega
    · obtain rfl : k = n := by omega
      rw [marked_all s ps k hl] at hown
      have HO := hide hown
      have HG := hide hg
      clear hown hg
      go_wp2
      go_ret
      exact ⟨rfl, unhide HO, unhide HG⟩
end Go.Proofs.YtpkgkekonhgonaaGreatDoor.LegHelp
namespace Go.Proofs.YtpkgkekonhgonaaGreatDoor.LegHeld
open Go.ChangeShapes Go.WideShapes Go.ChangeAt Go.RowKit Triples
open LegHelp (marks marks_len marks_getD)
set_option maxRecDepth 100000 in
theorem heldS (w : World) (g n cap : Nat) (s : Int) (h20 : n ≤ 1048576) (s0 : 0 ≤ s) (s1 : s ≤ 100000000) (h : At3 w g (marks s n)) :
    Calls Tryz.prog 16 #[.slice (some ⟨g, 0, none⟩) n cap, .int .i64 s] w fun e w' => e = .returned (.int .i64 (s + 3 * (n : Int))) ∧ w' = w := by
  go_enter Tryz.func16, Tryz.ntmps16
  go_wp2
  go_loop [1, 5] (fun m i => ∃ (k : Nat), k ≤ n ∧ i = .int .i64 k ∧ m = .int .i64 (s + 3 * (k : Int))) (fun _ i => n - (intOf i).toNat)
  case atStart => exact ⟨0, by omega, rfl, by go_num⟩
  case round =>
    obtain ⟨k, hk, rfl, rfl⟩ := hrel
    by_cases t : k < n
    · obtain ⟨e0, e1, e2⟩ := h k (by rw [marks_len]; exact t)
      rw [marks_getD s n k t] at e0 e1 e2
      have e2 : w.cell? ⟨g, k * 3 + 2, none⟩ = some (.int .i64 (s + 3 * (k : Int) + 1 + 1)) := by rw [e2]; simp; omega
      clear h
      go_wp2
      go_round
      case rel => exact ⟨k + 1, by omega, by go_num, by go_num⟩
      case measure => simp [intOf]; omega
    · obtain rfl : k = n := by omega
      clear h
      go_wp2
      go_ret
      exact ⟨rfl, rfl⟩
end Go.Proofs.YtpkgkekonhgonaaGreatDoor.LegHeld
namespace Go.Proofs.YtpkgkekonhgonaaGreatDoor.LawN
open Go.ChangeShapes Go.WideShapes Go.ChangeAt Go.RowKit BMem Bks BHelp BkEq LawB
open LawQ
open Bals (T3)
open Triples (Own3)
theorem own3_turn {W W' : World} {e : TypeId} {base g n c : Nat} {xs : List T3} {x : Bx} (h : Own3 e W base g n c xs) (k : Turn x W W') (ne : (∃ N, g < N ∧ Lo x N) ∨ ∃ N, N ≤ g ∧ Up x N) : Own3 e W' base g n c xs := by
  have l := h.lt.2
  have q : W'.heap[g]? = W.heap[g]? := by
    refine k.block g l ?_ ?_ ?_ ?_ ?_
    all_goals
      rcases ne with ⟨N, a, b⟩ | ⟨N, a, b⟩
      · unfold Lo at b; omega
      · unfold Up at b; omega
  refine ⟨h.1, ?_⟩
  rcases h.2 with ⟨h1, _⟩ | ⟨g', c', cur, h1, h2, h3, h4⟩
  · simp at h1
  · obtain ⟨e', _⟩ : g = g' ∧ c = c' := by simpa using h1
    subst e'
    exact Or.inr ⟨g, c', cur, h1, h2, by rw [q]; exact h3, h4⟩
theorem Bv.grown {W W' : World} {g p : Nat} {x : Bx} (h : Bv W p x) (k : W.grownBy W' (some g)) (hn : p ≠ g) : Bv W' p x := by
  have n : some p ≠ some g := fun e => by injection e; omega
  exact ⟨⟨k.cell h.c.c0 n, k.cell h.c.c1 n, k.cell h.c.c2 n, k.cell h.c.c3 n, k.cell h.c.c4 n, k.cell h.c.c5 n⟩, Nat.lt_of_lt_of_le h.l k.size⟩
theorem Zv.grown {W W' : World} {g p : Nat} (h : Zv W p) (k : W.grownBy W' (some g)) (hn : p ≠ g) : Zv W' p := by
  have n : some p ≠ some g := fun e => by injection e; omega
  exact ⟨k.cell h.c0 n, k.cell h.c1 n, k.cell h.c2 n, k.cell h.c3 n, k.cell h.c4 n, k.cell h.c5 n, Nat.lt_of_lt_of_le h.l k.size⟩
end Go.Proofs.YtpkgkekonhgonaaGreatDoor.LawN
namespace Go.Proofs
open Go.Shelf
def Tryz.sortN_ren : Go.Shelf.Ren := ⟨fun | 6 => 135 | 15 => 168 | 14 => 167 | 28 => 191 | 29 => 192 | 20 => 183 | 21 => 184 | 22 => 185 | 23 => 186 | 24 => 187 | 25 => 188 | 26 => 189 | 27 => 190 | 46 => 205 | 47 => 206 | 48 => 207 | 49 => 208 | 50 => 209 | 57 => 220 | n => n, fun | 22 => 31 | 24 => 67 | 25 => 169 | 3 => 3 | 39 => 196 | 0 => 0 | 53 => 235 | 55 => 237 | 4 => 4 | 46 => 229 | 45 => 228 | 50 => 128 | 5 => 5 | 9 => 9 | 66 => 244 | 70 => 248 | 76 => 259 | 77 => 59 | n => n, fun | n => n⟩
theorem Tryz.sortN : Go.Proofs.SlLaysF0.n6 Tryz.prog Tryz.sortN_ren := {
  mixed := by kernel_rfl
  f6 := ⟨Tryz.f135.name, by decide, Tryz.func135.trans (congrArg some (by kernel_rfl))⟩
  f14 := ⟨Tryz.f167.name, by decide, Tryz.func167.trans (congrArg some (by kernel_rfl))⟩
  f15 := Tryz.func168.trans (congrArg some (by kernel_rfl))
  f20 := ⟨Tryz.f183.name, by decide, Tryz.func183.trans (congrArg some (by kernel_rfl))⟩
  f21 := ⟨Tryz.f184.name, by decide, Tryz.func184.trans (congrArg some (by kernel_rfl))⟩
  f22 := ⟨Tryz.f185.name, by decide, Tryz.func185.trans (congrArg some (by kernel_rfl))⟩
  f23 := ⟨Tryz.f186.name, by decide, Tryz.func186.trans (congrArg some (by kernel_rfl))⟩
  f24 := ⟨Tryz.f187.name, by decide, Tryz.func187.trans (congrArg some (by kernel_rfl))⟩
  f25 := ⟨Tryz.f188.name, by decide, Tryz.func188.trans (congrArg some (by kernel_rfl))⟩
  f26 := ⟨Tryz.f189.name, by decide, Tryz.func189.trans (congrArg some (by kernel_rfl))⟩
  f27 := ⟨Tryz.f190.name, by decide, Tryz.func190.trans (congrArg some (by kernel_rfl))⟩
  f28 := Tryz.func191.trans (congrArg some (by kernel_rfl))
  f29 := Tryz.func192.trans (congrArg some (by kernel_rfl))
  f46 := ⟨Tryz.f205.name, by decide, Tryz.func205.trans (congrArg some (by kernel_rfl))⟩
  f47 := Tryz.func206.trans (congrArg some (by kernel_rfl))
  f48 := Tryz.func207.trans (congrArg some (by kernel_rfl))
  f49 := ⟨Tryz.f208.name, by decide, Tryz.func208.trans (congrArg some (by kernel_rfl))⟩
  f50 := ⟨Tryz.f209.name, by decide, Tryz.func209.trans (congrArg some (by kernel_rfl))⟩
  f57 := ⟨Tryz.f220.name, by decide, Tryz.func220.trans (congrArg some (by kernel_rfl))⟩
  t0 := Tryz.underlying0
  a0 := Tryz.isAgg0
  z0 := Tryz.sizeOf0
  v0 := Tryz.zeroValue0
  t3 := Tryz.underlying3
  a3 := Tryz.isAgg3
  z3 := Tryz.sizeOf3
  v3 := Tryz.zeroValue3
  t4 := Tryz.underlying4
  a4 := Tryz.isAgg4
  z4 := Tryz.sizeOf4
  v4 := Tryz.zeroValue4
  t5 := Tryz.underlying5
  a5 := Tryz.isAgg5
  z5 := Tryz.sizeOf5
  v5 := Tryz.zeroValue5
  t9 := Tryz.underlying9
  a9 := Tryz.isAgg9
  z9 := Tryz.sizeOf9
  v9 := Tryz.zeroValue9
  t22 := Tryz.underlying31
  a22 := Tryz.isAgg31
  z22 := Tryz.sizeOf31
  v22 := Tryz.zeroValue31
  t25 := Tryz.underlying169
  a25 := Tryz.isAgg169
  z25 := Tryz.sizeOf169
  v25 := Tryz.zeroValue169
  t39 := Tryz.underlying196
  a39 := Tryz.isAgg196
  z39 := Tryz.sizeOf196
  v39 := Tryz.zeroValue196
  t45 := Tryz.underlying228
  a45 := Tryz.isAgg228
  z45 := Tryz.sizeOf228
  v45 := Tryz.zeroValue228
  t46 := Tryz.underlying229
  a46 := Tryz.isAgg229
  z46 := Tryz.sizeOf229
  v46 := Tryz.zeroValue229
  t50 := Tryz.underlying128
  a50 := Tryz.isAgg128
  z50 := Tryz.sizeOf128
  v50 := Tryz.zeroValue128
  t53 := Tryz.underlying235
  a53 := Tryz.isAgg235
  z53 := Tryz.sizeOf235
  v53 := Tryz.zeroValue235
  t55 := Tryz.underlying237
  a55 := Tryz.isAgg237
  z55 := Tryz.sizeOf237
  v55 := Tryz.zeroValue237
  t66 := Tryz.underlying244
  a66 := Tryz.isAgg244
  z66 := Tryz.sizeOf244
  v66 := Tryz.zeroValue244
  t70 := Tryz.underlying248
  a70 := Tryz.isAgg248
  z70 := Tryz.sizeOf248
  v70 := Tryz.zeroValue248
  t76 := Tryz.underlying259
  a76 := Tryz.isAgg259
  z76 := Tryz.sizeOf259
  v76 := Tryz.zeroValue259
  t77 := Tryz.underlying59
  a77 := Tryz.isAgg59
  z77 := Tryz.sizeOf59
  v77 := Tryz.zeroValue59 }
end Go.Proofs
namespace Go.Proofs.YtpkgkekonhgonaaGreatDoor.SortN
open Go.ChangeShapes Go.WideShapes Go.ChangeAt Go.RowKit Bals Triples Cmp
open Go.Sort (putRow putCells mapBlock onCells Holds SWO PermIn SortedIn grow flatK get_flatK size_flatK HoldsK)
open Sort3 (enc cf lt_iff lt_not swo flat_flatK sw_same sw_below put_take)
theorem own_sorted (w : World) (base blk n cap q : Nat) (d : Array T3) (os : Array Obj) (ps : List T3) (hd : d.size = n) (h : Own3 67 w base blk n cap ps) :
    Own3 67 (sortWorldK enc 3 w blk 0 q d os) base blk n cap d.toList := by
  refine ⟨by rw [flat3_len]; simp [hd], ?_⟩
  rcases h.2 with ⟨z, _⟩ | ⟨g', c, cur, z, hb, hc, h1, h2, h3, h4⟩
  · simp at z
  · obtain ⟨rfl, rfl⟩ : blk = g' ∧ cap = c := by simpa using z
    refine Or.inr ⟨blk, cap, _, rfl, hb, sw_same w blk q d os cur 67 (0, 0) hc, h1, h2, by simpa [putCells] using h3, ?_⟩
    have := put_take (flatK enc 3 d) cur (by rw [size_flatK, hd, h3]; exact Nat.mul_le_mul_right 3 h1)
    rw [size_flatK, hd, flat_flatK] at this
    exact this
theorem holds_of (w : World) (base blk n cap : Nat) (ps : List T3) (h : Own3 67 w base blk n cap ps) : HoldsK enc 3 w blk 0 ps.toArray := by
  intro j hj
  have hl := h.len
  have hj' : j < n * 3 := by simpa [hl] using hj
  refine ⟨?_, by simpa using h.free (0 + j)⟩
  rw [Nat.zero_add]
  have e := World.ownsRow.cellAt h j hj'
  rw [e]
  have f := flat_flatK ps.toArray
  have g : flat3 ps = (flatK enc 3 ps.toArray).toList := by rw [f]
  rw [g, Array.getElem?_toList, Array.getElem?_eq_getElem hj, getElem!_pos _ j hj]
  rfl
set_option maxRecDepth 100000 in
set_option maxHeartbeats 2000000 in
theorem closure (x y : T3) (w : World) : Calls Tryz.prog 136 #[.agg #[.int .i64 x.1, .int .i64 x.2.1, .int .i64 x.2.2], .agg #[.int .i64 y.1, .int .i64 y.2.1, .int .i64 y.2.2]] w fun e w' => e = .returned (.int .i64 (cf x y)) ∧ ∃ q os, w' = grow (w.drewN q) os := by
  obtain ⟨a, i, p⟩ := x
  obtain ⟨b, j, r⟩ := y
  show Calls _ _ _ _ fun e w' => e = .returned (.int .i64 (orI (cmpI a b) (cmpI i j))) ∧ _
  go_enter Tryz.func136, Tryz.ntmps136
  go_wp2_with fail
  have hu : ∃ os, (w.alloc (.cells #[.int .i64 a, .int .i64 i, .int .i64 p] 67)).alloc (.cells #[.int .i64 b, .int .i64 j, .int .i64 r] 67) = grow w os := ⟨_, by rw [Go.Sort.alloc_eq_grow, Go.Sort.alloc_eq_grow, Go.Sort.grow_grow]⟩
  have c0 : ((w.alloc (.cells #[.int .i64 a, .int .i64 i, .int .i64 p] 67)).alloc (.cells #[.int .i64 b, .int .i64 j, .int .i64 r] 67)).cell? ⟨w.heap.size, 0, none⟩ = some (.int .i64 a) := by simp
  have c1 : ((w.alloc (.cells #[.int .i64 a, .int .i64 i, .int .i64 p] 67)).alloc (.cells #[.int .i64 b, .int .i64 j, .int .i64 r] 67)).cell? ⟨w.heap.size, 1, none⟩ = some (.int .i64 i) := by simp
  have c2 : ((w.alloc (.cells #[.int .i64 a, .int .i64 i, .int .i64 p] 67)).alloc (.cells #[.int .i64 b, .int .i64 j, .int .i64 r] 67)).cell? ⟨w.heap.size + 1, 0, none⟩ = some (.int .i64 b) := by simp
  have c3 : ((w.alloc (.cells #[.int .i64 a, .int .i64 i, .int .i64 p] 67)).alloc (.cells #[.int .i64 b, .int .i64 j, .int .i64 r] 67)).cell? ⟨w.heap.size + 1, 1, none⟩ = some (.int .i64 j) := by simp
  have HU := hide hu
  clear hu
  generalize (w.alloc (.cells #[.int .i64 a, .int .i64 i, .int .i64 p] 67)).alloc (.cells #[.int .i64 b, .int .i64 j, .int .i64 r] 67) = u at *
  generalize w.heap.size + 1 = h1 at *
  generalize w.heap.size = h0 at *
  go_region_held3 (fun w' => w'.cell? ⟨h0, 0, none⟩ = some (.int .i64 a) ∧ w'.cell? ⟨h0, 1, none⟩ = some (.int .i64 i) ∧ w'.cell? ⟨h1, 0, none⟩ = some (.int .i64 b) ∧ w'.cell? ⟨h1, 1, none⟩ = some (.int .i64 j)) (go_keep)
    (first | (go_at_call 130; refine (compare1 _ _ _).mono ?_; rintro e w1 ⟨rfl, rfl⟩) | (go_at_call 137; refine (orL u.heap.size (cmpI a b) (cmpI i j) _ ?_ ?_).mono ?_; (simp); (simp); rintro e w1 ⟨rfl, rfl⟩))
  all_goals (go_wp2; go_ret)
  all_goals (obtain ⟨os, rfl⟩ := unhide HU; exact ⟨rfl, 1, _, by rw [Go.Sort.alloc_eq_grow]; exact Go.Sort.grow_grow (w.drewN 1) _ _⟩)
theorem cmpLays (blk size : Nat) (w : World) : CmpLays Tryz.prog 136 #[] enc 3 cf blk 0 size w := fun _ _ _ _ x y => closure x y _
/-- The library's sort at the program's comparison. -/
theorem sorts (w : World) (base blk n cap : Nat) (ps : List T3) (hn : n ≤ 1048576) (ho : Own3 67 w base blk n cap ps) :
    Calls Tryz.prog 135 #[.slice (some ⟨blk, 0, none⟩) n cap, .func (.func 136) #[] #[]] w fun e w' =>
      e = .returned (.tuple #[]) ∧ ∃ qs, qs.Perm ps ∧ qs.Pairwise (fun p q => ¬ Bef q p) ∧ Own3 67 w' base blk n cap qs ∧ Below blk w w' := by
  have hl := ho.len
  have hs : ps.toArray.size = n := by simpa using hl
  have eg : ∀ args w, (callFunc 136 args).run Tryz.prog w = .ok (.enter 136 args) w := enters_of Tryz.func136 (by kernel_rfl) rfl
  have hcon := AnyQ.slices_SortFunc Tryz.sortN 3 Tryz.isAgg67 Tryz.sizeOf67 enc (fun _ => rfl) (fun x v hv => by simp [enc] at hv; rcases hv with rfl | rfl | rfl <;> rfl) cf swo 136 #[] blk 0 cap ps.toArray w eg (cmpLays blk _ w) (holds_of w base blk n cap ps ho) ho.lt.2 (by rw [hs]; omega)
  change Calls Tryz.prog 135 _ _ _ at hcon
  rw [hs] at hcon
  refine hcon.mono ?_
  rintro e w' ⟨rfl, d', q, os, hp, hso, rfl⟩
  have hd : d'.size = n := hp.1.trans hs
  refine ⟨rfl, d'.toList, ?_, ?_, own_sorted w base blk n cap q d' os ps hd ho, sw_below w blk q d' os ho.lt.2⟩
  · have := hp.2.2
    rw [Array.extract_eq_self_of_le (by omega), Array.extract_eq_self_of_le (by omega)] at this
    simpa using this
  · rw [List.pairwise_iff_getElem]
    intro i j hi hj hij
    have hj' : j < d'.size := by simpa using hj
    have := hso i j (Nat.zero_le _) hij (by omega)
    rw [getElem!_pos d' j hj', getElem!_pos d' i (by omega), lt_not] at this
    simpa using this
end Go.Proofs.YtpkgkekonhgonaaGreatDoor.SortN
namespace Go.Proofs.YtpkgkekonhgonaaGreatDoor.TabN
open Go.ChangeShapes Go.WideShapes Go.ChangeAt Go.RowKit Bals Triples
open Go.Maps (Keyed)
open Tab (laidOut zero Wf wf_no wf_amt D0 below_grown isMap_of)
theorem row : (165 : TypeId) < Tryz.prog.types.size := of_decide_eq_true (by kernel_rfl)
theorem cells : Tryz.prog.cellsOf 165 = 2 := by kernel_rfl
theorem wide : (match Tryz.prog.underlying 165 with | some (.array _ _) | some (.struct _) => true | _ => false) = true := by rw [Tryz.underlying165]
theorem deep : Tryz.prog.keyTypeAt (Tryz.prog.types.size + 1) 165 = true := by kernel_rfl
set_option maxRecDepth 100000 in
theorem law : Keyed Tryz.prog 165 := Keyed.of_law (deep_law_laid laidOut (m := 2) (by omega) row (by kernel_rfl) wide)
theorem formed {c0 c1 : Value} : (Value.agg #[c0, c1]).formed Tryz.prog 165 = true := by simp [Value.formed, Tryz.underlying165, cells]
/-- What a key reads as. -/
def kl (a i : Int) : Lit := .string (keyBytes [.int .i64 a, .int .i64 i])
theorem lits (a i : Int) (h : Wf a i) : Tryz.prog.keyLits (Tryz.prog.types.size + 1) 165 [.int .i64 a, .int .i64 i] = some [.int .i64 a, .int .i64 i] := by
  obtain ⟨m, hm⟩ : ∃ m, Tryz.prog.types.size = m + 1 := Nat.exists_eq_succ_of_ne_zero (Nat.ne_of_gt (Nat.lt_of_le_of_lt (Nat.zero_le _) row))
  rw [hm]
  have c3 : Tryz.prog.cellsOf 3 = 1 := by kernel_rfl
  simp [Program.keyLits, List.range, List.range.loop, Tryz.underlying165, cells, c3, Tryz.underlying3, h.1, h.2]
theorem key_of {a i : Int} (h : Wf a i) : keyOf Tryz.prog 165 (.agg #[.int .i64 a, .int .i64 i]) = some (kl a i) := by
  have l := lits a i h
  unfold keyOf
  rw [Tryz.underlying165]
  have kt : Tryz.prog.keyType 165 = true := deep
  simp only [kt, formed, Bool.and_self, if_true]
  show Option.map _ (Tryz.prog.keyLits (Tryz.prog.types.size + 1) 165 [.int .i64 a, .int .i64 i]) = _
  rw [l]
  rfl
set_option maxRecDepth 100000 in
theorem lit_one {m : Nat} {v : Value} {L : List Lit} (h : Tryz.prog.keyLits (m + 1) 3 [v] = some L) : ∃ a, v = .int .i64 a ∧ (Lit.int .i64 a).wf = true ∧ L = [.int .i64 a] := by
  cases v <;> simp [Program.keyLits, Tryz.underlying3] at h
  rename_i q a
  obtain ⟨⟨rfl, hw⟩, rfl⟩ := h
  exact ⟨a, rfl, hw, rfl⟩
set_option maxRecDepth 100000 in
theorem lit_two {m : Nat} {cs : List Value} {L : List Lit} (h : Tryz.prog.keyLits (m + 1) 165 cs = some L) : ∃ v0 v1 L0 L1, cs = [v0, v1] ∧ Tryz.prog.keyLits m 3 [v0] = some L0 ∧ Tryz.prog.keyLits m 3 [v1] = some L1 ∧ L = L0 ++ L1 := by
  have c3 : Tryz.prog.cellsOf 3 = 1 := by kernel_rfl
  unfold Program.keyLits at h
  rw [Tryz.underlying165] at h
  simp only [cells, c3] at h
  match cs, h with
  | [], h => simp at h
  | [_], h => simp at h
  | _ :: _ :: _ :: _, h => simp at h
  | [v0, v1], h =>
    cases e0 : Tryz.prog.keyLits m 3 [v0] with
    | none => simp [List.range, List.range.loop, e0] at h
    | some L0 =>
      cases e1 : Tryz.prog.keyLits m 3 [v1] with
      | none => simp [List.range, List.range.loop, e0, e1] at h
      | some L1 =>
        simp [List.range, List.range.loop, e0, e1] at h
        exact ⟨v0, v1, L0, L1, rfl, e0, e1, h.symm⟩
set_option maxRecDepth 100000 in
theorem key_inv {v : Value} {l : Lit} (h : keyOf Tryz.prog 165 v = some l) : ∃ x : Int × Int, v = .agg #[.int .i64 x.1, .int .i64 x.2] ∧ Wf x.1 x.2 ∧ l = kl x.1 x.2 := by
  obtain ⟨xs, L, rfl, h1, rfl⟩ := keyOf_top wide h
  obtain ⟨m, hm⟩ : ∃ m, Tryz.prog.types.size = m + 1 := Nat.exists_eq_succ_of_ne_zero (Nat.ne_of_gt (Nat.lt_of_le_of_lt (Nat.zero_le _) row))
  rw [hm] at h1
  obtain ⟨v0, v1, L0, L1, e, h2, h3, rfl⟩ := lit_two h1
  obtain ⟨a, rfl, w0, rfl⟩ := lit_one h2
  obtain ⟨i, rfl, w1, rfl⟩ := lit_one h3
  obtain ⟨xs⟩ := xs
  obtain rfl : xs = _ := e
  exact ⟨(a, i), rfl, ⟨w0, w1⟩, rfl⟩
theorem kl_inj {a i b j : Int} (h : Wf a i) (k : Wf b j) (e : kl a i = kl b j) : a = b ∧ i = j := by
  have := law.inj (key_of h) (e ▸ key_of k)
  simpa using this
theorem kl_key {a i : Int} (h : Wf a i) : WideAt.IsKeyLit (kl a i) := law.key (key_of h)
/-- The datum tells f. -/
def Tells (D : D0) (f : Int → Int → Int) : Prop := (∀ a i, Wf a i → D.atKey (kl a i) (.lit (.int .i64 0)) = .lit (.int .i64 (f a i))) ∧ ∀ a i, f a i ≠ 0 → Wf a i
/-- Block B is a table of at most n entries that tells f. -/
def Tab (w : World) (B n : Nat) (f : Int → Int → Int) : Prop := ∃ D : D0, w.ownsMap Tryz.prog 165 (plainElem Tryz.prog 3) B n D ∧ Tells D f
theorem tab_made (w : World) : Tab (w.alloc (.map #[] 0)) w.heap.size 0 (fun _ _ => 0) :=
  ⟨.map [], World.ownsMap_made _ _ _ _, fun a i h => rfl, fun a i h => absurd rfl h⟩
theorem Tab.lt {w : World} {B n : Nat} {f : Int → Int → Int} (h : Tab w B n f) : B < w.heap.size := by
  obtain ⟨D, h1, _⟩ := h
  exact h1.lt
theorem Tab.kept {w w' : World} {B n : Nat} {f : Int → Int → Int} {row : Option Nat} (h : Tab w B n f) (hg : w.grownBy w' row) (hne : some B ≠ row) : Tab w' B n f := by
  obtain ⟨D, h1, h2⟩ := h
  exact ⟨D, h1.kept hg hne, h2⟩
theorem Tab.below {w w' : World} {B n : Nat} {f : Int → Int → Int} (h : Tab w B n f) (k : Below w.heap.size w w') : Tab w' B n f := h.kept (below_grown k rfl) (by simp)
theorem Tab.congr {w : World} {B n : Nat} {f g : Int → Int → Int} (h : Tab w B n f) (e : ∀ a i, f a i = g a i) : Tab w B n g := by
  have : f = g := funext fun a => funext fun i => e a i
  exact this ▸ h
theorem tells_put {D : D0} {f : Int → Int → Int} (h : Tells D f) (hD : Maps.IsMap D) {a i v : Int} (hw : Wf a i) : Tells (D.put (kl a i) (.lit (.int .i64 v))) (upd f a i v) := by
  refine ⟨fun b j hb => ?_, fun b j hb => ?_⟩
  · by_cases e : b = a ∧ j = i
    · obtain ⟨rfl, rfl⟩ := e
      rw [upd_same, Maps.atKey_put_same hD (kl_key hw)]
    · rw [upd_other _ _ _ _ _ _ e, Maps.atKey_put_other (fun q => e (kl_inj hb hw q)), h.1 b j hb]
  · by_cases e : b = a ∧ j = i
    · obtain ⟨rfl, rfl⟩ := e
      exact hw
    · rw [upd_other _ _ _ _ _ _ e] at hb
      exact h.2 b j hb
/-- Block B is a table that tells f, block r goes over it; left: the keys still to come. -/
def RTab (w : World) (B r n : Nat) (f : Int → Int → Int) (left : Int → Int → Bool) (cnt : Nat) : Prop :=
  ∃ (D : D0) (lf : Lit → Bool), w.ranges Tryz.prog 165 (plainElem Tryz.prog 3) B r n D lf cnt ∧ Tells D f ∧ ∀ a i, Wf a i → left a i = lf (kl a i)
theorem RTab.tab {w : World} {B r n : Nat} {f : Int → Int → Int} {left : Int → Int → Bool} {cnt : Nat} (h : RTab w B r n f left cnt) : Tab w B n f := by
  obtain ⟨D, lf, h1, h2, _⟩ := h
  exact ⟨D, h1.owns, h2⟩
theorem RTab.lt {w : World} {B r n : Nat} {f : Int → Int → Int} {left : Int → Int → Bool} {cnt : Nat} (h : RTab w B r n f left cnt) : B < w.heap.size ∧ r < w.heap.size ∧ r ≠ B ∧ w.rangeLeft B r = cnt := by
  obtain ⟨D, lf, h1, _⟩ := h
  exact ⟨h1.owns.lt, h1.lt, h1.ne, h1.left_eq⟩
theorem RTab.kept {w w' : World} {B r n : Nat} {f : Int → Int → Int} {left : Int → Int → Bool} {cnt : Nat} {row : Option Nat} (h : RTab w B r n f left cnt) (hg : w.grownBy w' row) (hb : some B ≠ row) (hr : some r ≠ row) : RTab w' B r n f left cnt := by
  obtain ⟨D, lf, h1, h2⟩ := h
  exact ⟨D, lf, h1.kept hg hb hr, h2⟩
/-- 'range', at the operation. -/
theorem wp_range (w : World) {ops : Array Oper} {rest : List Oper} {o : Oper} {s : Act} {Q : Exit → Act → World → Prop}
    (hg : o.guard = none) (m : Operand) (t : TypeId) (hop : o.op = Op.range t m) (ht : Tryz.prog.underlying t = some (.map 165 3)) (B n : Nat) (f : Int → Int → Int) (hm : s.eval m = .map (some B)) (hown : Tab w B n f)
    (hK : ∀ w' left cnt, RTab w' B w.heap.size n f left cnt → cnt ≤ n → (∀ a i, f a i ≠ 0 → left a i = true) → w.grownBy w' none → w'.heap.size = w.heap.size + 1 → wpList Tryz.prog ops Q rest (s.put o.dst (.pointer (some ⟨w.heap.size, 0, none⟩))) w') : wpList Tryz.prog ops Q (o :: rest) s w := by
  obtain ⟨D, h1, h2⟩ := hown
  refine wpList_range_own w hg m t hop 165 3 law ht _ B n D hm h1 ?_
  intro w' h3 h4 h5
  refine hK w' (fun a i => Maps.has D (kl a i)) (Maps.size D) ⟨D, Maps.has D, h3, h2, fun a i _ => rfl⟩ ?_ ?_ h4 h5
  · obtain ⟨es, clock, _, _, hs, rfl⟩ := h1
    rw [Maps.size_eq, length_sorted]
    simpa using hs
  · intro a i hf
    refine Classical.byContradiction fun nh => ?_
    have nh : Maps.has D (kl a i) = false := by simpa using nh
    have e := h2.1 a i (h2.2 a i hf)
    rw [Maps.atKey_of_not_has nh] at e
    have : (0 : Int) = f a i := by simpa using e
    exact hf this.symm
set_option maxRecDepth 100000 in
/-- The step, at the operation. -/
theorem wp_next (w : World) {ops : Array Oper} {rest : List Oper} {o : Oper} {s : Act} {Q : Exit → Act → World → Prop}
    (hg : o.guard = none) (it : Operand) (hop : o.op = Op.next it false) (B r n : Nat) (f : Int → Int → Int) (left : Int → Int → Bool) (cnt : Nat) (hit : s.eval it = .pointer (some ⟨r, 0, none⟩)) (h : RTab w B r n f left cnt)
    (hDone : cnt = 0 → (∀ a i, Wf a i → left a i = false) → wpList Tryz.prog ops Q rest (s.put o.dst (.tuple #[.bool false])) w)
    (hMore : ∀ (a i : Int) (w' : World) (left' : Int → Int → Bool) (cnt' : Nat), Wf a i → (Lit.int .i64 (f a i)).wf = true → left a i = true → (∀ b j, Wf b j → left' b j = (left b j && !decide (b = a ∧ j = i))) → RTab w' B r n f left' cnt' → cnt' < cnt → w.grownBy w' (some r) → w'.heap.size = w.heap.size →
      (Instr.entry (.pointer (some ⟨r, 0, none⟩))).run Tryz.prog w' = .ok (.tuple #[.agg #[.int .i64 a, .int .i64 i], .int .i64 (f a i)]) w' → wpList Tryz.prog ops Q rest (s.put o.dst (.tuple #[.bool true, .agg #[.int .i64 a, .int .i64 i], .int .i64 (f a i)])) w') :
    wpList Tryz.prog ops Q (o :: rest) s w := by
  obtain ⟨D, lf, h1, h2, h3⟩ := h
  refine wpList_next_ranges (α := Int × Int) (β := Int) w hg it hop 165 law (plainElem Tryz.prog 3) (fun x => .agg #[.int .i64 x.1, .int .i64 x.2]) (Value.int .i64) (fun key l hk => by obtain ⟨x, e, _⟩ := key_inv hk; exact ⟨x, e⟩) (fun v y hv => by obtain ⟨c, rfl, _⟩ := plainElem_int_inv Tryz.underlying3 hv; exact ⟨c, rfl⟩) B r n D lf cnt hit h1 ?_ ?_
  · intro h4 h5
    exact hDone h4 (fun a i hw => by rw [h3 a i hw, h5])
  · intro x c l y w' cnt' hkey hlk hv hat hrg hlt hgr hsz hen
    obtain ⟨⟨a, i⟩, e, hw, rfl⟩ := key_inv hkey
    obtain ⟨c', ec, rfl, hwc⟩ := plainElem_int_inv Tryz.underlying3 hv
    cases ec
    obtain ⟨x1, x2⟩ := x
    obtain ⟨rfl, rfl⟩ : x1 = a ∧ x2 = i := by simpa using e
    have ef : f x1 x2 = c := by
      have := h2.1 x1 x2 hw
      rw [hat] at this
      simpa using this.symm
    subst ef
    refine hMore x1 x2 w' (fun b j => lf (kl b j) && !(kl b j).sameKey (kl x1 x2)) cnt' hw hwc (by rw [h3 x1 x2 hw]; exact hlk) (fun b j hb => ?_) ⟨D, _, hrg, h2, fun b j _ => rfl⟩ hlt hgr hsz hen
    rw [h3 b j hb]
    congr 2
    by_cases q : b = x1 ∧ j = x2
    · obtain ⟨rfl, rfl⟩ := q
      rw [WideAt.sameKey_self (kl_key hb)]
      simp
    · rw [Maps.sameKey_ne (fun e => q (kl_inj hb hw e))]
      simp [q]
theorem look_run {w : World} {B n : Nat} {f : Int → Int → Int} (h : Tab w B n f) {a i : Int} (hw : Wf a i) : (Instr.lookup 127 (.map (some B)) (.agg #[.int .i64 a, .int .i64 i]) false).run Tryz.prog w = .ok (.int .i64 (f a i)) w := by
  obtain ⟨D, h1, h2, _⟩ := h
  obtain ⟨c, hrun, hat, _⟩ := h1.lookup_int law Tryz.underlying127 Tryz.underlying3 (zero _) (key_of hw)
  rw [h2 a i hw] at hat
  have : f a i = c := by simpa using hat
  rw [this]
  exact hrun
end Go.Proofs.YtpkgkekonhgonaaGreatDoor.TabN
namespace Go.Proofs.YtpkgkekonhgonaaGreatDoor.EntryN
open Go.ChangeShapes Go.WideShapes Go.ChangeAt Go.RowKit Bals TabN
open Go.MapKept Go.ChangeMaps Go.WideElems
open Go.WideMaps (KeyLaw)
open Tab (Wf zero laidOut isMap_of)
open Entry (owns_block)
set_option maxRecDepth 100000 in
theorem klaw : KeyLaw Tryz.prog 165 := deep_law_laid laidOut (m := 2) (by omega) row (by kernel_rfl) wide
theorem tab_block {w w' : World} {B n : Nat} {f : Int → Int → Int} (h : Tab w B n f) (e : w'.heap[B]? = w.heap[B]?) : Tab w' B n f := by
  obtain ⟨D, h1, h2⟩ := h
  exact ⟨D, owns_block h1 e, h2⟩
theorem put_run {w : World} {B n : Nat} {f : Int → Int → Int} (h : Tab w B n f) (hn : n ≤ 1048576) {a i v : Int} (hw : Wf a i) (hv : (Lit.int .i64 v).wf = true) :
    ∃ w', (Instr.mapUpdate 127 (.map (some B)) (.agg #[.int .i64 a, .int .i64 i]) (.int .i64 v)).run Tryz.prog w = .ok () w' ∧ Tab w' B (n + 1) (upd f a i v) ∧ w.grownBy w' (some B) := by
  obtain ⟨D, h1, h2⟩ := h
  obtain ⟨w', r, o, g⟩ := h1.update law Tryz.underlying127 (by unfold maxLen; omega) (key_of hw) (plainElem_int Tryz.underlying3 hv)
  exact ⟨w', r, ⟨_, o, tells_put h2 (isMap_of h1) hw⟩, g⟩
set_option maxRecDepth 100000 in
theorem entry_run {w : World} {B n : Nat} {f : Int → Int → Int} (h : Tab w B n f) (hn : n ≤ 1048576) {a i : Int} (hw : Wf a i) :
    ∃ (v0 : Value) (st : Nat) (w2 : World), (Instr.mapEntry 127 (.map (some B)) (.agg #[.int .i64 a, .int .i64 i])).run Tryz.prog w = .ok (.tuple #[v0, goInt st]) w2 ∧ Tab w2 B (n + 1) f ∧ w.grownBy w2 (some B) ∧
      ∀ v : Int, (Lit.int .i64 v).wf = true → ∃ w3, (Instr.entryStore 127 (.map (some B)) (goInt st) (.int .i64 v)).run Tryz.prog w2 = .ok () w3 ∧ Tab w3 B (n + 1) (upd f a i v) ∧ w.grownBy w3 (some B) := by
  have h' := h
  obtain ⟨D, ⟨es, clock, hb, F, hs, hD⟩, hT⟩ := h
  obtain ⟨v0, st, es1, clock1, hE, hd, hS⟩ := entry_then_store klaw Tryz.underlying127 (z := .int .i64 0) zero hb F (key_of hw)
  refine ⟨v0, st, _, hE, ?_, ⟨rfl, rfl, rfl, by simp [setBlock], fun j _ hj => heap_setBlock_other hb _ (fun e => hj (by rw [e]))⟩, fun v hv => ?_⟩
  · rcases law.find w (key_of hw) es.toList F.keys with ⟨h1, h2⟩ | ⟨j, e0, h1, h2, h3⟩
    · have hE' : (Instr.mapEntry 127 (.map (some B)) (.agg #[.int .i64 a, .int .i64 i])).run Tryz.prog w = .ok (.tuple #[.int .i64 0, goInt clock]) (setBlock w B (.map (es.push ⟨.agg #[.int .i64 a, .int .i64 i], .int .i64 0, clock⟩) (clock + 1))) := by
        simp [Instr.mapEntry, run_underlying Tryz.underlying127, MapKept.run_getObj_map hb, law.check w false (key_of hw), h1, zero, MapKept.run_setObj_map _ hb, Result.andThen, setBlock]
      obtain ⟨w', r, t, g⟩ := put_run h' hn (v := 0) hw (by decide)
      have r' : (Instr.mapUpdate 127 (.map (some B)) (.agg #[.int .i64 a, .int .i64 i]) (.int .i64 0)).run Tryz.prog w = .ok () (setBlock w B (.map (es.push ⟨.agg #[.int .i64 a, .int .i64 i], .int .i64 0, clock⟩) (clock + 1))) := by
        simp [Instr.mapUpdate, run_underlying Tryz.underlying127, MapKept.run_getObj_map hb, law.check w false (key_of hw), h1, MapKept.run_setObj_map _ hb, Result.andThen, setBlock]
      have ew : setBlock w B (.map es1 clock1) = w' := by
        rw [hE] at hE'
        rw [r] at r'
        injection hE' with _ e1
        injection r' with _ e2
        rw [e1, e2]
      have fz : f a i = 0 := by
        have l1 := look_run h' hw
        have l2 : (Instr.lookup 127 (.map (some B)) (.agg #[.int .i64 a, .int .i64 i]) false).run Tryz.prog w = .ok (.int .i64 0) w := by
          simp [Instr.lookup, run_underlying Tryz.underlying127, MapKept.run_getObj_map hb, fun em => law.check w em (key_of hw), h1, zero, Result.andThen]
        rw [l1] at l2
        injection l2 with e1 _
        simpa using e1
      rw [ew]
      refine t.congr fun b j => ?_
      unfold upd
      by_cases e : b = a ∧ j = i
      · rw [if_pos e, e.1, e.2, fz]
      · rw [if_neg e]
    · have hj : es[j]? = some e0 := by simpa using h2
      have hsame : es.modify j (fun e => { e with key := .agg #[.int .i64 a, .int .i64 i] }) = es := by
        apply Array.ext'
        rw [Array.toList_modify, modify_eq_set _ _ _ _ h2]
        have : ({ e0 with key := .agg #[.int .i64 a, .int .i64 i] } : MapEntry) = e0 := by rw [← h3]
        rw [this]
        exact set_self _ _ _ h2
      have hE' : (Instr.mapEntry 127 (.map (some B)) (.agg #[.int .i64 a, .int .i64 i])).run Tryz.prog w = .ok (.tuple #[e0.val, goInt e0.born]) (setBlock w B (.map es clock)) := by
        simp [Instr.mapEntry, run_underlying Tryz.underlying127, MapKept.run_getObj_map hb, law.check w false (key_of hw), h1, hj, h3, law.stays w (key_of hw), hsame, MapKept.run_setObj_map _ hb, Result.andThen, setBlock]
      rw [hE] at hE'
      injection hE' with _ e1
      rw [e1]
      obtain ⟨D', o1, t1⟩ := tab_block (w' := setBlock w B (.map es clock)) h' (by rw [heap_setBlock_same hb]; exact hb.symm)
      exact ⟨D', o1.mono (by omega), t1⟩
  · obtain ⟨es', clock', s1, s2⟩ := hS _ (.int .i64 v) (heap_setBlock_same hb _)
    obtain ⟨w', r, t, g⟩ := put_run h' hn hw hv
    have ew : w' = setBlock w B (.map es' clock') := by
      rw [r] at s2
      injection s2
    refine ⟨_, s1, tab_block t ?_, ⟨rfl, rfl, rfl, by simp [setBlock], fun j _ hj => ?_⟩⟩
    · rw [ew, heap_setBlock_same hb, heap_setBlock_same (heap_setBlock_same hb _)]
    · rw [heap_setBlock_other (heap_setBlock_same hb _) _ (fun e => hj (by rw [e])), heap_setBlock_other hb _ (fun e => hj (by rw [e]))]
end Go.Proofs.YtpkgkekonhgonaaGreatDoor.EntryN
namespace Go.Proofs.YtpkgkekonhgonaaGreatDoor.Errs
open Go.ChangeShapes Go.WideShapes Go.ChangeAt Go.RowKit Go.Extern.Stop Go.Stop Go.Extern
/-- The first n variables are errors of errors.New's make, at places of their own below N. -/
structure Errs (w : World) (n N : Nat) (a : Nat → Addr) : Prop where
  v : ∀ k, k < n → w.cell? ⟨k, 0, none⟩ = some (.iface 290 (.pointer (some (a k))))
  lt : ∀ k, k < n → k < N ∧ (a k).block < N
  ne : ∀ j k, j < n → k < n → j ≠ k → a j ≠ a k
  row : ∀ k, k < n → ∃ c t, w.heap[(a k).block]? = some (.cells c t (0, 0))
theorem Errs.below {w w' : World} {n N M : Nat} {a : Nat → Addr} (h : Errs w n N a) (b : Below M w w') (hM : N ≤ M) : Errs w' n N a :=
  ⟨fun k hk => (b.cell (p := ⟨k, 0, none⟩) (Nat.lt_of_lt_of_le (h.lt k hk).1 hM)).trans (h.v k hk), h.lt, h.ne, fun k hk => by
    obtain ⟨c, t, e⟩ := h.row k hk
    exact ⟨c, t, (b.block _ (Nat.lt_of_lt_of_le (h.lt k hk).2 hM)).trans e⟩⟩
theorem Errs.drew {w : World} {n N : Nat} {a : Nat → Addr} (h : Errs w n N a) : Errs w.drew n N a := ⟨h.v, h.lt, h.ne, h.row⟩
theorem Errs.grown {w w' : World} {n N g : Nat} {a : Nat → Addr} (h : Errs w n N a) (b : w.grownBy w' (some g)) (hg : N ≤ g) : Errs w' n N a :=
  ⟨fun k hk => b.cell (h.v k hk) (fun e => by injection e with e; have := (h.lt k hk).1; simp at e; omega), h.lt, h.ne, fun k hk => by
    obtain ⟨c, t, e⟩ := h.row k hk
    exact ⟨c, t, (b.block _ (by have := Array.getElem?_eq_some_iff.1 e; obtain ⟨q, _⟩ := this; exact q) (fun e => by injection e with e; have := (h.lt k hk).2; omega)).trans e⟩⟩
end Go.Proofs.YtpkgkekonhgonaaGreatDoor.Errs
namespace Go.Proofs.YtpkgkekonhgonaaGreatDoor.PostMore
open Bals
/-- What legs give an account of an instrument. -/
def sumK : List T3 → Int → Int → Int
  | [], _, _ => 0
  | p :: r, a, i => (if p.1 = a ∧ p.2.1 = i then p.2.2 else 0) + sumK r a i
theorem sumK_append (a i : Int) : ∀ (ps qs : List T3), sumK (ps ++ qs) a i = sumK ps a i + sumK qs a i
  | [], qs => by simp [sumK]
  | p :: r, qs => by
    have := sumK_append a i r qs
    simp only [List.cons_append, sumK, this]
    omega
theorem sumK_next {ps : List T3} {k : Nat} (h : k < ps.length) (a i : Int) : sumK (ps.take (k + 1)) a i = sumK (ps.take k) a i + (if (el3 ps k).1 = a ∧ (el3 ps k).2.1 = i then (el3 ps k).2.2 else 0) := by
  rw [take_next h, sumK_append]
  simp [sumK]
theorem sumK_bound {ps : List T3} (a i : Int) (h : ∀ j, j < ps.length → Amt (el3 ps j).2.2) : ∀ k, k ≤ ps.length → -(1000000000000000 * (k : Int)) ≤ sumK (ps.take k) a i ∧ sumK (ps.take k) a i ≤ 1000000000000000 * (k : Int)
  | 0, _ => by simp [sumK]
  | k + 1, hk => by
    have ih := sumK_bound a i h k (by omega)
    have am := h k (by omega)
    rw [sumK_next (by omega)]
    unfold Amt at am
    split <;> omega
section
variable {ps ls qs rs : List T3} {xs : List Int} {c : Int}
end
end Go.Proofs.YtpkgkekonhgonaaGreatDoor.PostMore
namespace Go.Proofs.YtpkgkekonhgonaaGreatDoor.Net
open Bks Trd
open Bals (T3 el3 val sumI ListOf Good Amt upd putL)
open Tup8 (T8 el8)
open Lots (NoOk)
open PostMore (sumK)
/-- The trade of a number. -/
def tradeNo : List T8 → Int → T8
  | [], _ => (0, 0, 0, 0, 0, 0, 0, 0)
  | p :: r, no => if p.1 = no then p else tradeNo r no
theorem trade_at : ∀ {ts : List T8} {no : Int} {k : Nat}, IsAt ts no k → tradeNo ts no = el8 ts k
  | [], no, k, h => absurd h.1 (by simp)
  | p :: r, no, 0, h => by
    have e : p.1 = no := h.2.1
    unfold tradeNo
    rw [if_pos e]; rfl
  | p :: r, no, k + 1, h => by
    have n : p.1 ≠ no := h.2.2 0 (by omega)
    unfold tradeNo
    rw [if_neg n]
    exact trade_at (ts := r) (no := no) (k := k) ⟨by simpa using h.1, h.2.1, fun j hj => h.2.2 (j + 1) (by omega)⟩
/-- The legs of the trades of these numbers. -/
def legsOf (ts : List T8) : List Int → List T3
  | [] => []
  | no :: r => legsT (tradeNo ts no) ++ legsOf ts r
theorem legs_append (ts : List T8) : ∀ a b : List Int, legsOf ts (a ++ b) = legsOf ts a ++ legsOf ts b
  | [], b => rfl
  | x :: a, b => by simp [legsOf, legs_append ts a b]
theorem legs_len (ts : List T8) : ∀ a : List Int, (legsOf ts a).length = 4 * a.length
  | [] => rfl
  | x :: a => by simp [legsOf, legs_len ts a, legsT, pairL]; omega
def AllOpen (ts : List T8) (nos : List Int) : Prop := ∀ no ∈ nos, ∃ k, IsAt ts no k ∧ (el8 ts k).2.2.2.2.2.2.2 = 1
def CanNet (b : Bk) (nos : List Int) : Prop := Ok b ∧ nos.length ≤ 30 ∧ AllOpen b.ts nos ∧ nos.Nodup ∧ ∀ a i, Amt (sumK (legsOf b.ts nos) a i)
/-- The legs of trades together, and whether they are told. -/
def IsNetL (b : Bk) (nos : List Int) (qs : List T3) (ok : Bool) : Prop :=
  (CanNet b nos ∧ ListOf (sumK (legsOf b.ts nos)) qs ∧ ok = true) ∨ (¬ CanNet b nos ∧ qs = [] ∧ ok = false)
theorem IsNetL.same {b : Bk} {nos : List Int} {ps qs : List T3} {s t : Bool} (h : IsNetL b nos ps s) (k : IsNetL b nos qs t) : ps = qs ∧ s = t := by
  rcases h with ⟨h, h1, rfl⟩ | ⟨h, rfl, rfl⟩ <;> rcases k with ⟨k, k1, rfl⟩ | ⟨k, rfl, rfl⟩
  · exact ⟨h1.same k1, rfl⟩
  · exact absurd h k
  · exact absurd k h
  · exact ⟨rfl, rfl⟩
theorem sumK_one (L : List T3) (l : T3) : sumK (L ++ [l]) = upd (sumK L) l.1 l.2.1 (sumK L l.1 l.2.1 + l.2.2) := by
  funext a i
  rw [PostMore.sumK_append]
  show sumK L a i + ((if l.1 = a ∧ l.2.1 = i then l.2.2 else 0) + 0) = _
  unfold upd
  by_cases e : a = l.1 ∧ i = l.2.1
  · rw [if_pos e, if_pos ⟨e.1.symm, e.2.symm⟩, e.1, e.2]; omega
  · rw [if_neg e, if_neg (fun k => e ⟨k.1.symm, k.2.symm⟩)]; omega
theorem list_put {f : Int → Int → Int} {ps : List T3} (h : ListOf f ps) (a i x : Int) (put : Bool) (hp : (x == 0) = put) : ListOf (upd f a i x) (putL (a, i, x) ps put) := by
  obtain ⟨g, v⟩ := Bals.put_val (a, i, x) ps put h.1 (by subst hp; simp)
  refine ⟨g, fun b j => ?_⟩
  rw [v b j]
  have e : val ps = f := by funext c d; exact h.2 c d
  rw [e]
theorem list_nil (f : Int → Int → Int) (h : ∀ a i, f a i = 0) : ListOf f [] := ⟨⟨List.Pairwise.nil, fun p hp => by simp at hp⟩, fun a i => (h a i).symm⟩
/-- One more leg among the sums. -/
theorem list_leg {L : List T3} {ps : List T3} (h : ListOf (sumK L) ps) (l : T3) (put : Bool) (hp : (val ps l.1 l.2.1 + l.2.2 == 0) = put) : ListOf (sumK (L ++ [l])) (putL (l.1, l.2.1, val ps l.1 l.2.1 + l.2.2) ps put) := by
  rw [sumK_one]
  have := list_put h l.1 l.2.1 (val ps l.1 l.2.1 + l.2.2) put hp
  rw [h.2] at this ⊢
  exact this
theorem list_amt {f : Int → Int → Int} {ps : List T3} (h : ListOf f ps) : (∀ p ∈ ps, Amt p.2.2) ↔ ∀ a i, Amt (f a i) := by
  constructor
  · intro k a i
    by_cases e : f a i = 0
    · rw [e]; unfold Amt; omega
    · have m := Bals.val_mem ps a i (by rw [h.2]; exact e)
      have := k _ m
      rw [h.2] at this
      exact this
  · intro k p hp
    have := (h.1.mem p).1 hp
    rw [← this.2, h.2]
    exact k _ _
theorem legsT_amt {t : T8} (h : TOne t) : ∀ l ∈ legsT t, Amt l.2.2 := by
  intro l hl
  obtain ⟨i, hi, rfl⟩ := Bals.mem_getD hl
  exact ((SCarryP.legs_formed h).2 i hi).2.2
theorem legsOf_amt {ts : List T8} (ht : TRight ts) : ∀ {nos : List Int}, AllOpen ts nos → ∀ l ∈ legsOf ts nos, Amt l.2.2
  | [], _, l, hl => by simp [legsOf] at hl
  | no :: r, h, l, hl => by
    unfold legsOf at hl
    rcases List.mem_append.1 hl with hl | hl
    · obtain ⟨k, hk, _⟩ := h no (by simp)
      rw [trade_at hk] at hl
      exact legsT_amt (ht.2 k hk.1).1 l hl
    · exact legsOf_amt ht (fun x hx => h x (by simp [hx])) l hl
theorem sumK_near {ps : List T3} (h : ∀ l ∈ ps, Amt l.2.2) (hl : ps.length ≤ 200) (a i : Int) : -200000000000000000 ≤ sumK ps a i ∧ sumK ps a i ≤ 200000000000000000 := by
  have := PostMore.sumK_bound a i (fun j hj => h _ (Bals.getD_mem hj)) ps.length (Nat.le_refl _)
  rw [List.take_length] at this
  omega
/-- Trades that are settled one behind the other, up to the first one that is refused; acc: the gains so far. -/
def Steps (way : Int) : List Int → Bk → Int → Bk → Int → Int → Prop
  | [], b, acc, b', g, c => b' = b ∧ g = acc ∧ c = 0
  | no :: r, b, acc, b', g, c => ∃ b1 g1 c1, IsSettle b no way b1 g1 c1 ∧ ((c1 ≠ 0 ∧ b' = b ∧ g = 0 ∧ c = c1) ∨ (c1 = 0 ∧ Steps way r b1 (acc + g1) b' g c))
theorem Steps.same {way : Int} : ∀ {nos : List Int} {b : Bk} {acc : Int} {b1 b2 : Bk} {g1 g2 c1 c2 : Int}, Steps way nos b acc b1 g1 c1 → Steps way nos b acc b2 g2 c2 → b1 = b2 ∧ g1 = g2 ∧ c1 = c2
  | [], b, acc, b1, b2, g1, g2, c1, c2, h, k => by
    obtain ⟨rfl, rfl, rfl⟩ := h
    obtain ⟨rfl, rfl, rfl⟩ := k
    exact ⟨rfl, rfl, rfl⟩
  | no :: r, b, acc, b1, b2, g1, g2, c1, c2, h, k => by
    obtain ⟨d1, e1, f1, hs, h⟩ := h
    obtain ⟨d2, e2, f2, ks, k⟩ := k
    obtain ⟨rfl, rfl, rfl⟩ := hs.same ks
    rcases h with ⟨h1, rfl, rfl, rfl⟩ | ⟨h1, h⟩ <;> rcases k with ⟨k1, rfl, rfl, rfl⟩ | ⟨k1, k⟩
    · exact ⟨rfl, rfl, rfl⟩
    · exact absurd k1 h1
    · exact absurd h1 k1
    · exact Steps.same h k
/-- What a netting makes of books. -/
def IsNet (b : Bk) (lo hi way : Int) (b' : Bk) (legs : List T3) (gains c : Int) : Prop :=
  (openT lo hi b.ts = [] ∧ b' = b ∧ legs = [] ∧ gains = 0 ∧ c = 3) ∨
  (openT lo hi b.ts ≠ [] ∧ ∃ b2 g c2, Steps way (openT lo hi b.ts) b 0 b2 g c2 ∧ ((c2 ≠ 0 ∧ b' = b ∧ legs = [] ∧ gains = 0 ∧ c = c2) ∨
    (c2 = 0 ∧ ∃ qs ok, IsNetL b (openT lo hi b.ts) qs ok ∧ ((¬ (ok = true ∧ Amt g) ∧ b' = b ∧ legs = [] ∧ gains = 0 ∧ c = 8) ∨ ((ok = true ∧ Amt g) ∧ b' = b2 ∧ legs = qs ∧ gains = g ∧ c = 0)))))
theorem IsNet.same {b : Bk} {lo hi way : Int} {b1 b2 : Bk} {l1 l2 : List T3} {g1 g2 c1 c2 : Int} (h : IsNet b lo hi way b1 l1 g1 c1) (k : IsNet b lo hi way b2 l2 g2 c2) : b1 = b2 ∧ l1 = l2 ∧ g1 = g2 ∧ c1 = c2 := by
  rcases h with ⟨h0, rfl, rfl, rfl, rfl⟩ | ⟨h0, d1, e1, f1, hs, h⟩ <;> rcases k with ⟨k0, rfl, rfl, rfl, rfl⟩ | ⟨k0, d2, e2, f2, ks, k⟩
  · exact ⟨rfl, rfl, rfl, rfl⟩
  · exact absurd h0 k0
  · exact absurd k0 h0
  · obtain ⟨rfl, rfl, rfl⟩ := hs.same ks
    rcases h with ⟨h1, rfl, rfl, rfl, rfl⟩ | ⟨h1, q1, o1, hn, h⟩ <;> rcases k with ⟨k1, rfl, rfl, rfl, rfl⟩ | ⟨k1, q2, o2, kn, k⟩
    · exact ⟨rfl, rfl, rfl, rfl⟩
    · exact absurd k1 h1
    · exact absurd h1 k1
    · obtain ⟨rfl, rfl⟩ := hn.same kn
      rcases h with ⟨h2, rfl, rfl, rfl, rfl⟩ | ⟨h2, rfl, rfl, rfl, rfl⟩ <;> rcases k with ⟨k2, rfl, rfl, rfl, rfl⟩ | ⟨k2, rfl, rfl, rfl, rfl⟩
      · exact ⟨rfl, rfl, rfl, rfl⟩
      · exact absurd k2 h2
      · exact absurd h2 k2
      · exact ⟨rfl, rfl, rfl, rfl⟩
end Go.Proofs.YtpkgkekonhgonaaGreatDoor.Net
namespace Go.Proofs.YtpkgkekonhgonaaGreatDoor.NetT
open Go.ChangeShapes Go.WideShapes Go.ChangeAt Go.RowKit Bals Triples Cmp TabN EntryN Errs
open Tab (Wf wf_no)
open PostMore (sumK)
open Out (Coll coll_start coll_zero coll_more coll_end)
/-- A row of triples is no table. -/
theorem apart {e : TypeId} {w : World} {base g n cap : Nat} {ps : List T3} {B m : Nat} {f : Int → Int → Int} (h : Own3 e w base g n cap ps) (k : TabN.Tab w B m f) : g ≠ B := by
  obtain ⟨D, ⟨es, clock, hb, _⟩, _⟩ := k
  rcases h.2 with ⟨z, _⟩ | ⟨g', c, cur, z, _, hc, _⟩
  · simp at z
  · obtain ⟨rfl, rfl⟩ : g = g' ∧ cap = c := by simpa using z
    intro e
    rw [e, hb] at hc
    simp at hc
theorem apart2 {e : TypeId} {w : World} {base g n cap : Nat} {ps : List T3} {B r m : Nat} {f : Int → Int → Int} {left : Int → Int → Bool} {cnt : Nat} (h : Own3 e w base g n cap ps) (k : RTab w B r m f left cnt) : g ≠ B ∧ g ≠ r := by
  refine ⟨apart h k.tab, ?_⟩
  obtain ⟨D, lf, ⟨es, clock, since, seen, c0, hb, _, _, _, hr, _⟩, _⟩ := k
  rcases h.2 with ⟨z, _⟩ | ⟨g', c, cur, z, _, hc, _⟩
  · simp at z
  · obtain ⟨rfl, rfl⟩ : g = g' ∧ cap = c := by simpa using z
    intro e
    rw [e, hr] at hc
    simp at hc
theorem tab_wf {w : World} {B n : Nat} {f : Int → Int → Int} (h : TabN.Tab w B n f) : ∀ a i, f a i ≠ 0 → Wf a i := by
  obtain ⟨D, _, h2⟩ := h
  exact h2.2
theorem tab_drew {w : World} {B n : Nat} {f : Int → Int → Int} (h : TabN.Tab w B n f) : TabN.Tab w.drew B n f := h.below ((Below.refl _ _).drew)
set_option maxRecDepth 100000 in
set_option maxHeartbeats 8000000 in
theorem iAdd (w : World) (base B n g cap : Nat) (L ps : List T3) (hn : n + ps.length ≤ 1000) (ht : TabN.Tab w B n (sumK L)) (ho : Own3 67 w base g ps.length cap ps) (amt : ∀ l ∈ L ++ ps, Amt l.2.2) (len : (L ++ ps).length ≤ 200) (num : ∀ l ∈ ps, NoOk l.1 ∧ NoOk l.2.1) :
    Calls Tryz.prog 90 #[.map (some B), .slice (some ⟨g, 0, none⟩) ps.length cap] w fun e w' => e = .returned (.tuple #[]) ∧ TabN.Tab w' B (n + ps.length) (sumK (L ++ ps)) ∧ w.grownBy w' (some B) := by
  have ap := apart ho ht
  have HO := hide ho
  have HA := hide amt
  have HN := hide num
  have HL := hide len
  have T0 := hide (show TabN.Tab w B (n + 0) (sumK (L ++ ps.take 0)) from by simpa using ht)
  have p20 : ps.length ≤ 1000 := by omega
  clear ho amt num ht len
  go_enter Tryz.func90, Tryz.ntmps90
  go_wp2
  go_loopw [5, 8] (fun _ j wr => ∃ (k : Nat), j = .int .i64 k ∧ k ≤ ps.length ∧ Hid (TabN.Tab wr B (n + k) (sumK (L ++ ps.take k))) ∧ Hid (w.grownBy wr (some B))) (fun _ j _ => ps.length - (intOf j).toNat)
  case atStart => exact ⟨0, rfl, by omega, T0, hide (World.grownBy.refl w _)⟩
  case round =>
    clear T0
    obtain ⟨k, rfl, hk, HT, HG⟩ := hrel
    by_cases t : k < ps.length
    · have ne : some g ≠ some B := fun e => by injection e; omega
      have OW := hide ((unhide HO).kept (unhide HG) ne)
      obtain ⟨e0, e1, e2⟩ := (unhide OW).at k t
      have TN := hide (take_next t)
      have PM := hide (getD_mem t)
      have TK := hide (fun l (h : l ∈ ps.take k) => List.mem_of_mem_take h)
      obtain ⟨l, hl⟩ : ∃ l, Hid (el3 ps k = l) := ⟨_, rfl⟩
      rw [unhide hl] at e0 e1 e2 TN PM
      obtain ⟨l0, l1, l2⟩ := l
      have WF := (fun q : NoOk l0 ∧ NoOk l1 => wf_no q.1 q.2) ((unhide HN) _ (unhide PM))
      have AM : Amt l2 := (unhide HA) _ (List.mem_append_right _ (unhide PM))
      unfold Amt at AM
      have VB := Net.sumK_near (ps := L ++ ps.take k) (fun l hl => by
        rcases List.mem_append.1 hl with hl | hl
        · exact (unhide HA) l (List.mem_append_left _ hl)
        · exact (unhide HA) l (List.mem_append_right _ ((unhide TK) l hl))) (by have := unhide HL; simp at this ⊢; omega) l0 l1
      have NX := hide (show sumK (L ++ ps.take (k + 1)) = upd (sumK (L ++ ps.take k)) l0 l1 (sumK (L ++ ps.take k) l0 l1 + l2) from by
        rw [unhide TN, ← List.append_assoc, Net.sumK_one])
      obtain ⟨F, hF⟩ : ∃ F, Hid (sumK (L ++ ps.take k) = F) := ⟨_, rfl⟩
      rw [unhide hF] at HT NX VB
      obtain ⟨fv, hfv⟩ : ∃ fv, Hid (F l0 l1 = fv) := ⟨_, rfl⟩
      rw [unhide hfv] at VB NX
      have HW : IntKind.i64.wrap (fv + l2) = fv + l2 := by rw [IntKind.wrap_i64] <;> omega
      have WV : (Lit.int .i64 (fv + l2)).wf = true := WalkArith.wf_i64 (by omega)
      have bl := (unhide HT).lt
      have T3 := hide (tab_drew ((unhide HT).kept (World.grownBy_alloc wr (.cells #[.int .i64 l0, .int .i64 l1, .int .i64 l2] 67) none) (by simp)))
      have G3 := hide (Pairs.grown_trans (unhide HG) (show wr.grownBy (wr.alloc (.cells #[.int .i64 l0, .int .i64 l1, .int .i64 l2] 67)).drew (some B) from (fun h => ⟨h.os, h.tape, h.output, h.size, h.block⟩) (World.grownBy_alloc wr (.cells #[.int .i64 l0, .int .i64 l1, .int .i64 l2] 67) (some B))))
      have l3 := look_run (unhide T3) WF
      rw [unhide hfv] at l3
      obtain ⟨v0, st, w4, E4, t4, g4, ST⟩ := entry_run (unhide T3) (by omega) WF
      have l4 := look_run t4 WF
      rw [unhide hfv] at l4
      obtain ⟨w5, E5, t5, g5⟩ := ST (fv + l2) WV
      replace E5 : (Instr.entryStore 127 (.map (some B)) (.int .i64 (st : Int)) (.int .i64 (fv + l2))).run Tryz.prog w4 = .ok () w5 := E5
      have nr : some wr.heap.size ≠ some B := fun e => by injection e; omega
      have p0 : (wr.alloc (.cells #[.int .i64 l0, .int .i64 l1, .int .i64 l2] 67)).drew.cell? ⟨wr.heap.size, 0, none⟩ = some (.int .i64 l0) := by simp
      have p1 : (wr.alloc (.cells #[.int .i64 l0, .int .i64 l1, .int .i64 l2] 67)).drew.cell? ⟨wr.heap.size, 1, none⟩ = some (.int .i64 l1) := by simp
      have p2 : (wr.alloc (.cells #[.int .i64 l0, .int .i64 l1, .int .i64 l2] 67)).drew.cell? ⟨wr.heap.size, 2, none⟩ = some (.int .i64 l2) := by simp
      have K4 := And.intro p0 (And.intro p1 p2)
      have K5 := And.intro (g4.cell p0 nr) (And.intro (g4.cell p1 nr) (g4.cell p2 nr))
      have K6 := And.intro (g5.cell p0 nr) (And.intro (g5.cell p1 nr) (g5.cell p2 nr))
      have S5 := hide (Pairs.grown_trans (unhide G3) g5)
      have T5 := hide (show TabN.Tab w5 B (n + (k + 1)) (sumK (L ++ ps.take (k + 1))) from by rw [unhide NX]; exact t5)
      clear t4 g4 t5 g5 ST HT HG G3 T3 p0 p1 p2 NX VB TN PM TK OW hl
      go_wp2_with fail
      go_region_held3 (fun w' => w'.cell? ⟨wr.heap.size, 0, none⟩ = some (.int .i64 l0) ∧ w'.cell? ⟨wr.heap.size, 1, none⟩ = some (.int .i64 l1) ∧ w'.cell? ⟨wr.heap.size, 2, none⟩ = some (.int .i64 l2)) (first | exact K4 | exact K5 | exact K6) (fail)
      all_goals
        go_wp2
        go_roundw
        case rel => exact ⟨k + 1, by go_num, by omega, T5, S5⟩
        case measure => simp [intOf]; omega
    · obtain rfl : k = ps.length := by omega
      have T9 := hide (show TabN.Tab wr B (n + ps.length) (sumK (L ++ ps)) from by have := unhide HT; rwa [List.take_length] at this)
      clear HT
      go_wp2
      go_end0
      exact ⟨rfl, unhide T9, unhide HG⟩
/-- What a table of sums is told as. -/
def IsTold (f : Int → Int → Int) (a : Nat → Addr) (qs : List T3) (v : Value) : Prop :=
  ((∀ x i, Amt (f x i)) ∧ ListOf f qs ∧ v = .nilIface) ∨ (¬ (∀ x i, Amt (f x i)) ∧ qs = [] ∧ v = .iface 290 (.pointer (some (a 3))))
set_option maxRecDepth 100000 in
set_option maxHeartbeats 8000000 in
theorem iTold (w : World) (B n N : Nat) (f : Int → Int → Int) (ad : Nat → Addr) (hn : n ≤ 100000) (ht : TabN.Tab w B n f) (E : Errs w 4 N ad) (hN : N ≤ w.heap.size) :
    Calls Tryz.prog 92 #[.map (some B)] w fun e w' => ∃ qs g c v, IsTold f ad qs v ∧ qs.length ≤ n ∧ e = .returned (.tuple #[.slice (some ⟨g, 0, none⟩) qs.length c, v]) ∧ Own3 67 w' w.heap.size g qs.length c qs ∧ Below w.heap.size w w' := by
  have hB := ht.lt
  have HWF := hide (tab_wf ht)
  have HE := hide E
  have t1 := ht.kept (World.grownBy_alloc w (.cells #[] 67) none) (by simp)
  have HT := hide t1
  have O0 := hide (lit30 67 w w.heap.size (Nat.le_refl _))
  have B0 := hide (show Below w.heap.size w (w.alloc (.cells #[] 67)) from (Below.refl _ _).alloc (Nat.le_refl _) _)
  clear ht t1 E
  go_enter Tryz.func92, Tryz.ntmps92
  go_wp2_with (first | (at_range; refine wp_range _ rfl _ 127 rfl Tryz.underlying127 B n f rfl (unhide HT) ?_; intro w0 left0 cnt0 rt0 c0 lz0 g0 s0) | go_in)
  go_frame
  have RT := hide rt0
  have CO := hide (coll_start lz0)
  have AG0 := hide (show ∀ x i, Wf x i → left0 x i = false → Amt (f x i) from fun x i _ h => by
    have z : f x i = 0 := Classical.byContradiction fun q => by rw [lz0 x i q] at h; cases h
    rw [z]; unfold Amt; omega)
  have O1 := hide ((unhide O0).kept g0 (by simp))
  have B1 := hide (next (unhide B0) (grownBy_below g0))
  clear rt0 lz0 g0 HT O0 B0
  simp only [World.size_alloc] at RT s0
  simp only [World.size_alloc]
  generalize hR : w.heap.size + 1 = R at *
  have hRl : w.heap.size < R := by omega
  go_loopw [4, 5, 6] (fun l _ _ wr => ∃ (qs : List T3) (g c : Nat) (left : Int → Int → Bool) (cnt : Nat), l = .slice (some ⟨g, 0, none⟩) qs.length c ∧ Hid (Own3 67 wr w.heap.size g qs.length c qs) ∧ Hid (RTab wr B R n f left cnt) ∧ Hid (Coll qs f left) ∧ Hid (∀ x i, Wf x i → left x i = false → Amt (f x i)) ∧ qs.length + cnt ≤ n ∧ Hid (Below w.heap.size w wr)) (fun _ _ _ wr => wr.rangeLeft B R)
  case atStart => exact ⟨[], w.heap.size, 0, left0, cnt0, rfl, O1, RT, CO, AG0, by simpa using c0, B1⟩
  case round =>
    clear RT CO O1 B1 c0 s0 AG0
    obtain ⟨qs, g, c, left, cnt, rfl, HO, RT, CO, AG, hc, HB⟩ := hrel
    go_wp2_with (first | (at_next; refine wp_next _ rfl _ rfl B R n f left cnt rfl (unhide RT) ?_ ?_) | go_in)
    · intro c0 l0
      have LZ := hide l0
      have AL := hide (show ∀ x i, Amt (f x i) from fun x i => by
        by_cases z : f x i = 0
        · rw [z]; unfold Amt; omega
        · exact (unhide AG) x i ((unhide HWF) x i z) (l0 x i ((unhide HWF) x i z)))
      have sz := (unhide HO).lt
      clear l0
      go_wp2_with fail
      refine (SortN.sorts _ w.heap.size g qs.length c qs (by omega) (unhide HO)).mono ?_
      rintro e w2 ⟨rfl, rs, hp, hs, o2, b2⟩
      have LO := hide (coll_end (unhide CO) (unhide HWF) (unhide LZ) hp hs)
      have el : rs.length = qs.length := hp.length_eq
      have O2 := hide o2
      have B2 := hide ((unhide HB).trans (b2.mono sz.1))
      clear hp hs o2 b2
      go_wp2
      go_ret2
      exact ⟨rs, g, c, _, .inl ⟨unhide AL, unhide LO, rfl⟩, by omega, by rw [el]; rfl, by rw [el]; exact unhide O2, unhide B2⟩
    · intro a i w2 left2 cnt2 wf wv la l2 rt2 lt2 g2 s2 hen
      have l2 : ∀ b j, Wf b j → left2 b j = (left b j && !decide (b = a ∧ j = i)) := fun b j h => by
        rw [l2 b j h]
        by_cases e1 : b = a <;> by_cases e2 : j = i <;> simp [e1, e2]
      have ap := apart2 (unhide HO) (unhide RT)
      have ML := hide (show w2.rangeLeft B R < wr.rangeLeft B R by rw [rt2.lt.2.2.2, (unhide RT).lt.2.2.2]; exact lt2)
      have RT2 := hide rt2
      have O2 := hide ((unhide HO).kept g2 (by simp; exact ap.2))
      have B2 := hide ((unhide HB).grown g2 (unhide HB).size (fun j hj => by cases hj; exact Nat.le_of_lt hRl))
      have CZ := hide (fun hz => coll_zero (unhide CO) l2 hz)
      have CM := hide (fun hz => coll_more (unhide CO) wf la l2 hz)
      have AN := hide (show Amt (f a i) → ∀ x j, Wf x j → left2 x j = false → Amt (f x j) from fun h x j hw hl => by
        rw [l2 x j hw] at hl
        by_cases e : x = a ∧ j = i
        · rw [e.1, e.2]; exact h
        · exact (unhide AG) x j hw (by simpa [e] using hl))
      obtain ⟨b1, h1⟩ := says_of (Amt (f a i))
      have BAD := hide (show ¬ Amt (f a i) → ¬ (∀ x j, Amt (f x j)) from fun h k => h (k a i))
      clear rt2 l2 g2 s2 la wf wv CO AG
      generalize f a i = v at *
      have O3 := hide ((unhide O2).alloc (.cells #[.int .i64 a, .int .i64 i] 165))
      have R3 := hide ((unhide RT2).kept (World.grownBy_alloc w2 (.cells #[.int .i64 a, .int .i64 i] 165) none) (by simp) (by simp))
      have B3 := hide ((unhide B2).alloc (unhide B2).size (.cells #[.int .i64 a, .int .i64 i] 165))
      have M3 : World.rangeLeft (w2.alloc (.cells #[.int .i64 a, .int .i64 i] 165)) B R = w2.rangeLeft B R := by rw [(unhide R3).lt.2.2.2, (unhide RT2).lt.2.2.2]
      have M3 := hide M3
      have bs := (unhide B2).size
      have E3 := hide ((unhide HE).below (unhide B3) hN)
      have H1 := hide h1
      clear h1
      go_wp2_with fail
      refine (iAmt v b1 _ (unhide H1)).mono ?_
      rintro e v1 ⟨rfl, rfl⟩
      cases b1
      · have FB := hide ((unhide BAD) (unhide H1).no)
        have ve := (unhide E3).v 3 (by omega)
        have ve' : ((w2.alloc (.cells #[.int .i64 a, .int .i64 i] 165)).alloc (.cells #[] 67)).cell? ⟨3, 0, none⟩ = some (.iface 290 (.pointer (some (ad 3)))) := cell?_alloc_old _ ve
        have O9 := hide (lit30 67 (w2.alloc (.cells #[.int .i64 a, .int .i64 i] 165)) w.heap.size (unhide B3).size)
        have B9 := hide ((unhide B3).alloc (unhide B3).size (.cells #[] 67))
        go_wp2_with fail
        go_region
        all_goals
          go_wp2
          go_ret2
          exact ⟨[], _, 0, _, .inr ⟨unhide FB, rfl, rfl⟩, by simp, rfl, by have := (unhide O9).below (Below.refl _ _).drew (unhide O9).lt.2; rwa [World.size_alloc] at this, (unhide B9).drew⟩
      have AG2 := hide ((unhide AN) (unhide H1).yes)
      by_cases v0 : v = 0
      · have CC := hide ((unhide CZ) v0)
        clear CZ CM
        subst v0
        go_wp2
        go_roundw
        case rel => exact ⟨qs, g, c, left2, cnt2, rfl, O3, R3, CC, AG2, by omega, B3⟩
        case measure => rw [unhide M3]; exact unhide ML
      · have CC := hide ((unhide CM) v0)
        have v0b : (v == 0) = false := by simpa using v0
        clear CZ CM
        have O4 := hide ((unhide O3).alloc (.cells #[.int .i64 a, .int .i64 i, .int .i64 v] 67))
        have R4 := hide ((unhide R3).kept (World.grownBy_alloc _ (.cells #[.int .i64 a, .int .i64 i, .int .i64 v] 67) none) (by simp) (by simp))
        have B4 := hide ((unhide B3).alloc (unhide B3).size (.cells #[.int .i64 a, .int .i64 i, .int .i64 v] 67))
        have V4 := hide (show Holds3 ((w2.alloc (.cells #[.int .i64 a, .int .i64 i] 165)).alloc (.cells #[.int .i64 a, .int .i64 i, .int .i64 v] 67)) (w2.heap.size + 1) 0 (a, i, v) from by unfold Holds3; simp)
        go_wp2_with (first | (at_builtin; refine LegApp.wp_app _ rfl _ _ rfl w.heap.size g qs.length c qs (w2.heap.size + 1) a i v rfl rfl (unhide O4) (unhide V4) (by omega) (by simp; omega) ?_; intro g5 c5 w5 o5 gr5 _) | go_in)
        have R5 := hide ((unhide R4).kept gr5 (by simp; exact Ne.symm ap.1) (by simp; exact Ne.symm ap.2))
        have M5 := hide (show w5.rangeLeft B R = w2.rangeLeft B R by rw [(unhide R5).lt.2.2.2, (unhide RT2).lt.2.2.2])
        have B5 := hide ((unhide B4).grown gr5 (by simp; omega) (fun j hj => by cases hj; exact (unhide HO).lt.1))
        have el : (qs ++ [(a, i, v)]).length = qs.length + 1 := by simp
        have O5 := hide o5
        clear o5 gr5
        go_wp2
        go_roundw
        case rel => exact ⟨qs ++ [(a, i, v)], g5, c5, left2, cnt2, by rw [el], hide (by rw [el]; exact unhide O5), R5, CC, AG2, by rw [el]; omega, B5⟩
        case measure => rw [unhide M5]; exact unhide ML
end Go.Proofs.YtpkgkekonhgonaaGreatDoor.NetT
namespace Go.Proofs.YtpkgkekonhgonaaGreatDoor.SNetL
open Go.ChangeShapes Go.WideShapes Go.ChangeAt Go.RowKit BMem Bks ILists IBalsFit Ans Trd Net
open Lots (Says says_of NoOk)
open Bals (T3 el3 val ListOf putL Amt)
open Tup8 (T8 el8)
open Triples (Own3 At3 Holds3)
open PostMore (sumK)
theorem at_take {w : World} {g : Nat} {xs : List Int} (h : Ints.At w g xs) (k : Nat) : Ints.At w g (xs.take k) := by
  intro i hi
  have h1 : i < k := by simp at hi; omega
  have h2 : i < xs.length := by simp at hi; omega
  rw [Ints.getD_take xs k i h1]
  exact h i h2
theorem take_nos {xs : List Int} {k : Nat} (h : k < xs.length) : xs.take (k + 1) = xs.take k ++ [xs.getD k 0] := by
  rw [List.take_succ_eq_append_getElem h]
  simp [List.getD, h]
theorem open_next {ts : List T8} {xs : List Int} {k : Nat} (h : k < xs.length) (a : AllOpen ts (xs.take k)) (o : ∃ n, IsAt ts (xs.getD k 0) n ∧ (el8 ts n).2.2.2.2.2.2.2 = 1) : AllOpen ts (xs.take (k + 1)) := by
  intro no hn
  rw [take_nos h] at hn
  rcases List.mem_append.1 hn with hn | hn
  · exact a no hn
  · rw [List.mem_singleton.1 hn]; exact o
theorem nodup_next {xs : List Int} {k : Nat} (h : k < xs.length) (a : (xs.take k).Nodup) (o : xs.getD k 0 ∉ xs.take k) : (xs.take (k + 1)).Nodup := by
  rw [take_nos h]
  refine List.nodup_append.2 ⟨a, by simp, ?_⟩
  intro x hx y hy e
  rw [List.mem_singleton.1 hy] at e
  subst e
  exact o hx
theorem has_dup {xs : List Int} {k : Nat} (h : k < xs.length) (o : xs.getD k 0 ∈ xs.take k) : ¬ xs.Nodup := by
  intro n
  have n' : (xs.take (k + 1)).Nodup := n.sublist (List.take_sublist _ _)
  rw [take_nos h] at n'
  exact (List.nodup_append.1 n').2.2 _ o _ (by simp) rfl
theorem mem_nos {xs : List Int} {k : Nat} (h : k < xs.length) : xs.getD k 0 ∈ xs := by simp [List.getD, h]
set_option maxRecDepth 100000 in
set_option maxHeartbeats 16000000 in
theorem sNetLegs (w : World) (x : Bx) (gN capN : Nat) (nos : List Int) (hr : Rd w x) (hN : nos.length ≤ 1048576) (hc : nos.length ≤ capN) (hc2 : capN ≤ 9223372036854775807) (lN : gN < w.heap.size) (aN : Ints.At w gN nos) :
    Calls Tryz.prog 6 #[.agg #[.slice (some ⟨x.ga, 0, none⟩) x.b.ac.length x.ca, .slice (some ⟨x.gi, 0, none⟩) x.b.ic.length x.ci, .slice (some ⟨x.gb, 0, none⟩) x.b.bs.length x.cb, .slice (some ⟨x.gl, 0, none⟩) x.b.ls.length x.cl, .slice (some ⟨x.gt, 0, none⟩) x.b.ts.length x.ct, .int .i64 x.b.lot], .slice (some ⟨gN, 0, none⟩) nos.length capN] w fun e w' => ∃ (qs : List T3) (ok : Bool) (g c : Nat), IsNetL x.b nos qs ok ∧ qs.length ≤ 120 ∧ e = .returned (.tuple #[.slice (some ⟨g, 0, none⟩) qs.length c, .bool ok]) ∧ Own3 67 w' w.heap.size g qs.length c qs ∧ Below w.heap.size w w' := by
  obtain ⟨b0, h0⟩ := says_of (Ok x.b)
  have H0 := hide h0
  have nt := hr.nt
  have S0 := hide ((St.start hr 40).step (one_more (w.alloc (.cells #[.slice (some ⟨x.ga, 0, none⟩) x.b.ac.length x.ca, .slice (some ⟨x.gi, 0, none⟩) x.b.ic.length x.ci, .slice (some ⟨x.gb, 0, none⟩) x.b.bs.length x.cb, .slice (some ⟨x.gl, 0, none⟩) x.b.ls.length x.cl, .slice (some ⟨x.gt, 0, none⟩) x.b.ts.length x.ct, .int .i64 x.b.lot] 40)) (.cells #[] 67)))
  have N0 := hide (show Own3 67 ((w.alloc (.cells #[.slice (some ⟨x.ga, 0, none⟩) x.b.ac.length x.ca, .slice (some ⟨x.gi, 0, none⟩) x.b.ic.length x.ci, .slice (some ⟨x.gb, 0, none⟩) x.b.bs.length x.cb, .slice (some ⟨x.gl, 0, none⟩) x.b.ls.length x.cl, .slice (some ⟨x.gt, 0, none⟩) x.b.ts.length x.ct, .int .i64 x.b.lot] 40)).alloc (.cells #[] 67)) w.heap.size (w.heap.size + 1) 0 0 [] from by
    have := Triples.lit30 67 (w.alloc (.cells #[.slice (some ⟨x.ga, 0, none⟩) x.b.ac.length x.ca, .slice (some ⟨x.gi, 0, none⟩) x.b.ic.length x.ci, .slice (some ⟨x.gb, 0, none⟩) x.b.bs.length x.cb, .slice (some ⟨x.gl, 0, none⟩) x.b.ls.length x.cl, .slice (some ⟨x.gt, 0, none⟩) x.b.ts.length x.ct, .int .i64 x.b.lot] 40)) w.heap.size (by simp)
    simpa using this)
  have A0 := hide (show Ints.At ((w.alloc (.cells #[.slice (some ⟨x.ga, 0, none⟩) x.b.ac.length x.ca, .slice (some ⟨x.gi, 0, none⟩) x.b.ic.length x.ci, .slice (some ⟨x.gb, 0, none⟩) x.b.bs.length x.cb, .slice (some ⟨x.gl, 0, none⟩) x.b.ls.length x.cl, .slice (some ⟨x.gt, 0, none⟩) x.b.ts.length x.ct, .int .i64 x.b.lot] 40)).alloc (.cells #[] 67)) gN nos from aN.below (((Below.refl w.heap.size w).alloc (Nat.le_refl _) _).alloc (by simp) _) lN)
  clear h0 hr aN
  go_enter Tryz.func6, Tryz.ntmps6
  go_wp2_with fail
  refine (SBooksOk.sBooksOk _ x b0 (unhide S0).r (unhide H0)).mono ?_
  rintro e w1 ⟨rfl, bb⟩
  have S1 := hide ((unhide S0).step bb)
  have N1 := hide ((unhide N0).below bb (unhide N0).lt.2)
  have A1 := hide ((unhide A0).below bb (by simp; omega))
  clear bb S0 N0 A0
  cases b0
  · have F := hide (show IsNetL x.b nos [] false from .inr ⟨fun k => (unhide H0).no k.1, rfl, rfl⟩)
    go_wp2
    go_ret2
    exact ⟨[], false, w.heap.size + 1, 0, unhide F, by simp, rfl, unhide N1, (unhide S1).b⟩
  have OK := hide (unhide H0).yes
  clear H0
  by_cases n30 : nos.length ≤ 30
  rotate_left
  · have F := hide (show IsNetL x.b nos [] false from .inr ⟨fun k => n30 k.2.1, rfl, rfl⟩)
    have nb : decide ((nos.length : Int) > 30) = true := decide_eq_true (by omega)
    clear n30
    go_wp2
    go_ret2
    exact ⟨[], false, w.heap.size + 1, 0, unhide F, by simp, rfl, unhide N1, (unhide S1).b⟩
  have nb : decide ((nos.length : Int) > 30) = false := decide_eq_false (by omega)
  have S2 := hide ((unhide S1).step (one_more w1 (.cells #[] 70)))
  have N2 := hide ((unhide N1).alloc (.cells #[] 70))
  have A2 := hide ((unhide A1).below (one_more w1 (.cells #[] 70)) (by have := (unhide S1).s; omega))
  have P2 := hide (Triples.lit30 70 w1 w.heap.size (unhide S1).b.size)
  have L0 := hide (show ListOf (sumK (legsOf x.b.ts (nos.take 0))) [] from list_nil _ (fun a i => rfl))
  go_wp2
  generalize hw2 : w1.alloc (.cells #[] 70) = w2 at *
  have z1 := (unhide S1).s
  have z2 : w1.heap.size < w2.heap.size := by rw [← hw2]; simp
  clear hw2 S1 N1 A1
  go_loopw [7, 8] (fun s i wr => ∃ (ps : List T3) (gs cs k : Nat), s = .slice (some ⟨gs, 0, none⟩) ps.length cs ∧ i = .int .i64 k ∧ k ≤ nos.length ∧ ps.length ≤ 4 * k ∧ Hid (ListOf (sumK (legsOf x.b.ts (nos.take k))) ps) ∧ Hid (AllOpen x.b.ts (nos.take k)) ∧ Hid ((nos.take k).Nodup) ∧ Hid (Own3 70 wr w.heap.size gs ps.length cs ps) ∧ Hid (St w wr x) ∧ Hid (Below w2.heap.size w2 wr)) (fun _ i _ => nos.length - (intOf i).toNat)
  case atStart => exact ⟨[], w1.heap.size, 0, 0, rfl, rfl, by omega, by simp, L0, hide (fun no hn => by simp at hn), hide (by simp), P2, S2, hide (Below.refl _ _)⟩
  case round =>
    clear P2 L0
    obtain ⟨ps, gs, cs, k, rfl, rfl, hk, pl, HL, HA, HD, HP, HS, HB⟩ := hrel
    by_cases t : k < nos.length
    · have C := (unhide HS).c
      have AW := hide ((unhide A2).below (unhide HB) (by omega))
      obtain ⟨no, hno⟩ : ∃ no, Hid (nos.getD k 0 = no) := ⟨_, rfl⟩
      have cN : wr.cell? ⟨gN, k, none⟩ = some (.int .i64 no) := by rw [← unhide hno]; exact (unhide AW) k t
      have K4 := And.intro C.c0 (And.intro C.c1 (And.intro C.c2 (And.intro C.c3 (And.intro C.c4 (And.intro C.c5 cN)))))
      clear C
      go_wp2_with fail
      go_region_held3 (fun w' => w'.cell? ⟨w.heap.size, 0, none⟩ = some (.slice (some ⟨x.ga, 0, none⟩) x.b.ac.length x.ca) ∧ w'.cell? ⟨w.heap.size, 1, none⟩ = some (.slice (some ⟨x.gi, 0, none⟩) x.b.ic.length x.ci) ∧ w'.cell? ⟨w.heap.size, 2, none⟩ = some (.slice (some ⟨x.gb, 0, none⟩) x.b.bs.length x.cb) ∧ w'.cell? ⟨w.heap.size, 3, none⟩ = some (.slice (some ⟨x.gl, 0, none⟩) x.b.ls.length x.cl) ∧ w'.cell? ⟨w.heap.size, 4, none⟩ = some (.slice (some ⟨x.gt, 0, none⟩) x.b.ts.length x.ct) ∧ w'.cell? ⟨w.heap.size, 5, none⟩ = some (.int .i64 x.b.lot) ∧ w'.cell? ⟨gN, k, none⟩ = some (.int .i64 no)) (first | with_reducible exact K4 | with_reducible exact K5 | exact K4)
        (first | (go_at_call 26; refine (STrd.sOpenAt wr.drew x no ((unhide HS).r.below (Below.refl _ _).drew)).mono ?_; rintro e u1 ⟨r, c, ho, rfl, bb⟩; have bW := hide (show Below wr.heap.size wr u1 from ILotsFit.below_of_drew bb); have S3 := hide ((unhide HS).step (unhide bW)); have A3 := hide ((unhide AW).below (unhide bW) (by have := (unhide HB).size; omega)); have P3 := hide ((unhide HP).below (unhide bW) (unhide HP).lt.2); have HB3 := hide ((unhide HB).trans ((unhide bW).mono (unhide HB).size)); have HO := hide ho; have K5 := And.intro (unhide S3).c.c0 (And.intro (unhide S3).c.c1 (And.intro (unhide S3).c.c2 (And.intro (unhide S3).c.c3 (And.intro (unhide S3).c.c4 (And.intro (unhide S3).c.c5 (((unhide bW).cell (p := ⟨gN, k, none⟩) (show gN < wr.heap.size by have := (unhide HB).size; omega)).trans cN)))))); clear bb ho))
      clear K4 K5
      obtain ⟨c4', cN'⟩ : u1.cell? ⟨w.heap.size, 4, none⟩ = some (.slice (some ⟨x.gt, 0, none⟩) x.b.ts.length x.ct) ∧ u1.cell? ⟨gN, k, none⟩ = some (.int .i64 no) := ⟨(unhide S3).c.c4, by rw [← unhide hno]; exact (unhide A3) k t⟩
      rcases unhide HO with ⟨hn, rfl, rfl⟩ | ⟨n, hn, rfl, ⟨hst, rfl⟩ | ⟨hst, rfl⟩⟩
      · have F := hide (show IsNetL x.b nos [] false from .inr ⟨fun kk => by
          obtain ⟨m, hm, _⟩ := kk.2.2.1 _ (mem_nos t)
          rw [unhide hno] at hm
          exact hm.not hn, rfl, rfl⟩)
        have N3 := hide ((unhide N2).below (unhide HB3) (unhide N2).lt.2)
        clear hn HO
        go_wp2_with fail
        go_quiet (fail)
        go_wp2
        go_ret2
        exact ⟨[], false, w.heap.size + 1, 0, unhide F, by simp, rfl, unhide N3, Tup8.below_drewN (unhide S3).b _⟩
      · have F := hide (show IsNetL x.b nos [] false from .inr ⟨fun kk => by
          obtain ⟨m, hm, hs⟩ := kk.2.2.1 _ (mem_nos t)
          rw [unhide hno] at hm
          rw [hm.same hn] at hs
          exact hst hs, rfl, rfl⟩)
        have N3 := hide ((unhide N2).below (unhide HB3) (unhide N2).lt.2)
        clear hn HO hst
        go_wp2_with fail
        go_quiet (fail)
        go_wp2
        go_ret2
        exact ⟨[], false, w.heap.size + 1, 0, unhide F, by simp, rfl, unhide N3, Tup8.below_drewN (unhide S3).b _⟩
      · obtain ⟨b1, h1⟩ := Bals.says_of (no ∈ nos.take k)
        have H1 := hide h1
        have KK := hide hn
        have HST := hide hst
        clear hn HO hst h1
        have ng : gN < u1.heap.size := by have := (unhide HB3).size; omega
        have C0 : ∀ n : Quieter.Near u1, n.u.cell? ⟨gN, k, none⟩ = some (.int .i64 no) := fun n => (n.b.cell (p := ⟨gN, k, none⟩) ng).trans cN'
        have near := Quieter.near_is u1
        go_wp2_with fail
        refine Quieter.quiet_near (by kernel_rfl) (by kernel_rfl) ?_
        repeat (go_big_quiet_step (first
          | (go_at_call 27
             rename_i nn
             refine (Post.sHas nn.u gN k capN (nos.take k) no b1 (by simp; omega) (by omega) (at_take ((unhide A3).below nn.b ng) k) (unhide H1)).mono ?_
             rintro e u6 ⟨rfl, rfl⟩
             exact ⟨rfl, ⟨_, nn.b⟩, rfl⟩)))
        refine wpQuiet_nil ?_
        rintro u2 ⟨⟨v2, c9⟩, e9⟩
        have b9 : Below u1.heap.size u1 u2 := by rw [e9]; exact c9
        clear e9 c9 v2
        have S4 := hide ((unhide S3).step b9)
        have HB4 := hide ((unhide HB3).trans (b9.mono (unhide HB3).size))
        have P4 := hide ((unhide P3).below b9 (unhide P3).lt.2)
        clear near C0 b9 S3 P3 HB3 bW
        cases b1
        rotate_left
        · have F := hide (show IsNetL x.b nos [] false from .inr ⟨fun kk => has_dup t (by rw [unhide hno]; exact (unhide H1).yes) kk.2.2.2.1, rfl, rfl⟩)
          have N3 := hide ((unhide N2).below (unhide HB4) (unhide N2).lt.2)
          go_wp2
          go_ret2
          exact ⟨[], false, w.heap.size + 1, 0, unhide F, by simp, rfl, unhide N3, (unhide S4).b⟩
        have HA' := hide (open_next t (unhide HA) ⟨n, by rw [unhide hno]; exact unhide KK, unhide HST⟩)
        have HD' := hide (nodup_next t (unhide HD) (by rw [unhide hno]; exact (unhide H1).no))
        have tn := (unhide KK).1
        have TO := hide ((unhide OK).1.2.2.2.2.1.2 n tn).1
        have TR := hide (show legsOf x.b.ts (nos.take (k + 1)) = legsOf x.b.ts (nos.take k) ++ legsT (el8 x.b.ts n) from by
          rw [take_nos t, legs_append, unhide hno]
          show _ ++ (legsT (tradeNo x.b.ts no) ++ []) = _
          rw [trade_at (unhide KK), List.append_nil])
        obtain ⟨d0, d1, d2, d3, d4, d5, d6, d7⟩ := (unhide S4).r.rt n tn
        clear KK HST HD H1 cN cN' c4'
        generalize el8 x.b.ts n = p at *
        obtain ⟨p0, p1, p2, p3, p4, p5, p6, p7⟩ := p
        have q1 : 0 ≤ p4 := by have := (unhide TO).2.2.2.2.2.2.1.1; simp at this; omega
        have q2 : p4 ≤ 1000000000000000 := (unhide TO).2.2.2.2.2.2.1.2
        have q3 : 0 ≤ p6 := (unhide TO).2.2.2.2.2.2.2.1.1
        have q4 : p6 ≤ 1000000000000000 := (unhide TO).2.2.2.2.2.2.2.1.2
        have c4 := (unhide S4).c.c4
        go_wp2_with fail
        refine (SLegs.sLegs _ p0 p1 p2 p3 p4 p5 p6 p7 q1 q2 q3 q4).mono ?_
        rintro e u3 ⟨gL, cL, rfl, oL, bb⟩
        have S5 := hide ((unhide S4).step bb)
        have HB5 := hide ((unhide HB4).trans (bb.mono (unhide HB4).size))
        have P5 := hide ((unhide P4).below bb (unhide P4).lt.2)
        have OL := hide oL
        have FM := hide (legsT_amt (unhide TO))
        clear bb oL S4 HB4 P4 d0 d1 d2 d3 d4 d5 d6 d7 c4
        have HL' := hide (show ListOf (sumK (legsOf x.b.ts (nos.take k) ++ (legsT (p0, p1, p2, p3, p4, p5, p6, p7)).take 0)) ps from by rw [List.take_zero, List.append_nil]; exact unhide HL)
        have LL := hide (legs_len x.b.ts (nos.take k))
        have LA := hide (legsOf_amt (unhide OK).1.2.2.2.2.1 (unhide HA))
        obtain ⟨L, hL⟩ : ∃ L, Hid (legsOf x.b.ts (nos.take k) = L) := ⟨_, rfl⟩
        rw [unhide hL] at TR HL' LL LA
        obtain ⟨T, hT⟩ : ∃ T, Hid (legsT (p0, p1, p2, p3, p4, p5, p6, p7) = T) := ⟨_, rfl⟩
        rw [unhide hT] at TR HL' FM OL
        have TL : T.length = 4 := by rw [← unhide hT]; rfl
        have HTL := hide TL
        clear TL HL hL hT TO
        go_wp2
        go_loopw [7, 12] (fun s j wr => ∃ (qs : List T3) (gq cq m : Nat), s = .slice (some ⟨gq, 0, none⟩) qs.length cq ∧ j = .int .i64 m ∧ m ≤ 4 ∧ qs.length ≤ 4 * k + m ∧ Hid (ListOf (sumK (L ++ T.take m)) qs) ∧ Hid (Own3 70 wr w.heap.size gq qs.length cq qs) ∧ Hid (St w wr x) ∧ Hid (Below u3.heap.size u3 wr)) (fun _ j _ => 4 - (intOf j).toNat)
        case atStart => exact ⟨ps, gs, cs, 0, rfl, rfl, by omega, by omega, HL', P5, S5, hide (Below.refl _ _)⟩
        case round =>
          clear HL' P5 S5
          obtain ⟨qs, gq, cq, m, rfl, rfl, hm, ql, HQ, OQ, SQ, BQ⟩ := hrel
          by_cases t2 : m < 4
          · have lm : m < T.length := by rw [unhide HTL]; exact t2
            have gl := (unhide OL).lt
            obtain ⟨e0, e1, e2⟩ := ((unhide OL).at.below (unhide BQ) gl.2) m lm
            have TN := hide (Bals.take_next lm)
            have AL := hide ((unhide FM) _ (Bals.getD_mem lm))
            obtain ⟨l, hl⟩ : ∃ l, Hid (el3 T m = l) := ⟨_, rfl⟩
            rw [unhide hl] at e0 e1 e2 TN AL
            obtain ⟨l0, l1, l2⟩ := l
            obtain ⟨v, hv⟩ : ∃ v, Hid (val qs l0 l1 = v) := ⟨_, rfl⟩
            have VB := sumK_near (ps := L ++ T.take m) (fun l hl => by
              rcases List.mem_append.1 hl with hl | hl
              · exact (unhide LA) l hl
              · exact (unhide FM) l (List.mem_of_mem_take hl)) (by
              rw [List.length_append, unhide LL, List.length_take, List.length_take, unhide HTL]; omega) l0 l1
            rw [← (unhide HQ).2, unhide hv] at VB
            have AB : Amt l2 := unhide AL
            unfold Amt at AB
            have HW : IntKind.i64.wrap (v + l2) = v + l2 := by rw [IntKind.wrap_i64] <;> omega
            obtain ⟨put0, hput⟩ : ∃ put0, Hid ((v + l2 == 0) = put0) := ⟨_, rfl⟩
            have NX := hide (show ListOf (sumK (L ++ T.take (m + 1))) (putL (l0, l1, v + l2) qs put0) from by
              have := list_leg (unhide HQ) (l0, l1, l2) put0 (by show (val qs l0 l1 + l2 == 0) = put0; rw [unhide hv]; exact unhide hput)
              rw [unhide TN, ← List.append_assoc]
              show ListOf _ (putL (l0, l1, v + l2) qs put0)
              rw [← unhide hv]
              exact this)
            have PL := Bals.putL_len (l0, l1, v + l2) qs put0
            have PL2 : (putL (l0, l1, v + l2) qs put0).length ≤ qs.length + 1 := by cases put0 <;> simp at PL <;> omega
            have HPL := hide PL2
            clear TN AL hl VB AB PL PL2
            have K4 := And.intro e0 (And.intro e1 e2)
            have oq := (unhide OQ).lt
            go_wp2_with fail
            go_region_held3 (fun w' => w'.cell? ⟨gL, m * 3, none⟩ = some (.int .i64 l0) ∧ w'.cell? ⟨gL, m * 3 + 1, none⟩ = some (.int .i64 l1) ∧ w'.cell? ⟨gL, m * 3 + 2, none⟩ = some (.int .i64 l2)) (first | exact K4 | exact K5)
              (first | (go_at_call 30; refine (Look.sOf wr.drew gq qs.length cq qs l0 l1 rfl (by omega) ((unhide OQ).at.below (B := wr.heap.size) (Below.refl _ _).drew oq.2)).mono ?_; rintro e u5 ⟨he, rfl⟩; rw [unhide hv] at he; subst he) | (go_at_call 29; refine (SPut3.sPut wr.drew gq qs.length cq qs l0 l1 (v + l2) put0 rfl (by omega) oq.2 ((unhide OQ).at.below (B := wr.heap.size) (Below.refl _ _).drew oq.2) (unhide hput)).mono ?_; rintro e u6 ⟨g6, c6, rfl, o6, bb⟩; have bW := hide (show Below wr.heap.size wr u6 from ILotsFit.below_of_drew bb); have O6 := hide o6; have K5 := And.intro (((unhide bW).cell (p := ⟨gL, m * 3, none⟩) (show gL < wr.heap.size by have := (unhide BQ).size; omega)).trans e0) (And.intro (((unhide bW).cell (p := ⟨gL, m * 3 + 1, none⟩) (show gL < wr.heap.size by have := (unhide BQ).size; omega)).trans e1) (((unhide bW).cell (p := ⟨gL, m * 3 + 2, none⟩) (show gL < wr.heap.size by have := (unhide BQ).size; omega)).trans e2)); clear bb o6))
            clear K4 K5 e0 e1 e2
            have S7 := hide ((unhide SQ).step (unhide bW))
            have B7 := hide ((unhide BQ).trans ((unhide bW).mono (unhide BQ).size))
            have O7 := hide ((unhide O6).rebase (base' := w.heap.size) (by have h1 : wr.heap.size ≤ g6 := (unhide O6).lt.1; have := (unhide SQ).b.size; omega))
            obtain ⟨R, hR⟩ : ∃ R, Hid (putL (l0, l1, v + l2) qs put0 = R) := ⟨_, rfl⟩
            rw [unhide hR] at O7 NX HPL
            rw [unhide hR]
            go_wp2
            go_roundw
            case rel => exact ⟨R, g6, c6, m + 1, rfl, by go_num, by omega, by have := unhide HPL; omega, NX, O7, S7, B7⟩
            case measure => simp [intOf]; omega
          · obtain rfl : m = 4 := by omega
            have HQ' := hide (show ListOf (sumK (legsOf x.b.ts (nos.take (k + 1)))) qs from by
              have := unhide HQ
              rw [List.take_of_length_le (by rw [unhide HTL]; exact Nat.le_refl _)] at this
              rw [unhide TR]; exact this)
            have HB9 := hide ((unhide HB5).trans ((unhide BQ).mono (unhide HB5).size))
            go_wp2
            go_roundw
            case rel => exact ⟨qs, gq, cq, k + 1, rfl, by go_num, by omega, by omega, HQ', HA', HD', OQ, SQ, HB9⟩
            case measure => simp [intOf]; omega
    · obtain rfl : k = nos.length := by omega
      rw [List.take_length] at HL HA HD
      have CAN := hide (show (∀ q ∈ ps, Amt q.2.2) → CanNet x.b nos from fun h => ⟨unhide OK, n30, unhide HA, unhide HD, (list_amt (unhide HL)).1 h⟩)
      have NOT := hide (show ¬ (∀ q ∈ ps, Amt q.2.2) → IsNetL x.b nos [] false from fun h => .inr ⟨fun kk => h ((list_amt (unhide HL)).2 kk.2.2.2.2), rfl, rfl⟩)
      have hp := (unhide HP).lt
      have hs := (unhide HS).b.size
      have S9 := hide ((unhide HS).b.trans ((one_more wr (.cells #[] 67)).mono hs))
      have G9 := hide (Triples.lit30 67 wr w.heap.size hs)
      have P9 := hide ((unhide HP).at.below (one_more wr (.cells #[] 67)) hp.2)
      have N9 := hide (((unhide N2).below (unhide HB) (unhide N2).lt.2).alloc (.cells #[] 67))
      have n9 := ((unhide N2).below (unhide HB) (unhide N2).lt.2).lt.2
      go_wp2
      have z9 : wr.heap.size < (wr.alloc (.cells #[] 67)).heap.size := by simp
      generalize wr.alloc (.cells #[] 67) = w9 at *
      clear HP HS HB S2 N2 A2 HA HD
      generalize wr.heap.size = Z at *
      go_loopw [13, 14] (fun o i wz => ∃ (g c j : Nat), o = .slice (some ⟨g, 0, none⟩) j c ∧ i = .int .i64 j ∧ j ≤ ps.length ∧ Hid (∀ q ∈ ps.take j, Amt q.2.2) ∧ Hid (Own3 67 wz w.heap.size g j c (ps.take j)) ∧ Z ≤ g ∧ Hid (Below Z w9 wz)) (fun _ i _ => ps.length - (intOf i).toNat)
      case atStart => exact ⟨Z, 0, 0, rfl, rfl, by omega, hide (fun q hq => by simp at hq), G9, Nat.le_refl _, hide (Below.refl _ _)⟩
      case round =>
        clear G9
        obtain ⟨g, c, j, rfl, rfl, hj, HG, OG, hg, HB⟩ := hrel
        have wz1 := (unhide HB).size
        have wz1' := Nat.le_trans (Nat.le_of_lt z9) wz1
        by_cases t : j < ps.length
        · obtain ⟨e0, e1, e2⟩ := ((unhide P9).below (unhide HB) hp.2) j t
          have TN := hide (Bals.take_next t)
          have PM := hide (Bals.getD_mem t)
          obtain ⟨q, hq⟩ : ∃ q, Hid (el3 ps j = q) := ⟨_, rfl⟩
          rw [unhide hq] at e0 e1 e2 TN PM
          obtain ⟨y0, y1, y2⟩ := q
          obtain ⟨b1, h1⟩ := Bals.says_of (Amt y2)
          have H1 := hide h1
          clear h1 hq
          go_wp2_with fail
          refine (SOk3.sAmt y2 b1 _ (unhide H1)).mono ?_
          rintro e v1 ⟨rfl, rfl⟩
          cases b1
          · have F := hide ((unhide NOT) (fun h => (unhide H1).no (h _ (unhide PM))))
            have N3 := hide ((unhide N9).below (unhide HB) n9)
            have B3 := hide ((unhide S9).trans ((unhide HB).mono hs))
            go_wp2
            go_ret2
            exact ⟨[], false, w.heap.size + 1, 0, unhide F, by simp, rfl, unhide N3, unhide B3⟩
          have HG' := hide (show ∀ q ∈ ps.take (j + 1), Amt q.2.2 from fun q hq => by
            rw [unhide TN] at hq
            rcases List.mem_append.1 hq with hq | hq
            · exact (unhide HG) q hq
            · rw [List.mem_singleton.1 hq]; exact (unhide H1).yes)
          have K4 := And.intro e0 (And.intro e1 e2)
          have gv : gs < v1.heap.size := by omega
          have AO := hide (one_more v1 (.cells #[.int .i64 y0, .int .i64 y1, .int .i64 y2] 67))
          have K5 := And.intro (((unhide AO).cell (p := ⟨gs, j * 3, none⟩) gv).trans e0) (And.intro (((unhide AO).cell (p := ⟨gs, j * 3 + 1, none⟩) gv).trans e1) (((unhide AO).cell (p := ⟨gs, j * 3 + 2, none⟩) gv).trans e2))
          have OG5 := hide ((unhide OG).alloc (.cells #[.int .i64 y0, .int .i64 y1, .int .i64 y2] 67))
          have X5 := hide (show At3 (v1.alloc (.cells #[.int .i64 y0, .int .i64 y1, .int .i64 y2] 67)) v1.heap.size [(y0, y1, y2)] from by
            intro i hi
            obtain rfl : i = 0 := by simpa using hi
            simp [Holds3])
          have ne : some gs ≠ some g := fun e => by injection e; omega
          go_wp2_with fail
          go_region_held3 (fun w' => w'.cell? ⟨gs, j * 3, none⟩ = some (.int .i64 y0) ∧ w'.cell? ⟨gs, j * 3 + 1, none⟩ = some (.int .i64 y1) ∧ w'.cell? ⟨gs, j * 3 + 2, none⟩ = some (.int .i64 y2)) (first | exact K4 | exact K5 | exact K6)
            (first | (refine SLegs.step_cat3 _ (by rfl) _ _ (by rfl) w.heap.size g j c 1 (ps.take j) [(y0, y1, y2)] v1.heap.size 1 (by rfl) (by rfl) (by exact unhide OG5) (by rfl) (by exact unhide X5) (by omega) (by simp; omega) ?_; intro g5 c5 w5 o5 gr5 loc5; have O5 := hide o5; have GR := hide gr5; have LOC := hide loc5; have K6 := And.intro (gr5.cell K5.1 ne) (And.intro (gr5.cell K5.2.1 ne) (gr5.cell K5.2.2 ne)); clear o5 gr5 loc5))
          clear K4 K5 K6 e0 e1 e2
          have B5 := hide (((unhide HB).trans ((unhide AO).mono wz1')).drew.grown (unhide GR) (by simp; omega) (fun i e => by injection e; omega))
          have O6 := hide (show Own3 67 w5 w.heap.size g5 (j + 1) c5 (ps.take (j + 1)) from by rw [unhide TN]; exact unhide O5)
          have g6 : Z ≤ g5 := by
            rcases unhide LOC with e | e
            · omega
            · rw [e]; simp; omega
          go_wp2
          go_roundw
          case rel => exact ⟨g5, c5, j + 1, by simp, by go_num, by omega, HG', O6, g6, B5⟩
          case measure => simp [intOf]; omega
        · obtain rfl : j = ps.length := by omega
          rw [List.take_length] at HG OG
          have F := hide (show IsNetL x.b nos ps true from .inl ⟨(unhide CAN) (unhide HG), unhide HL, rfl⟩)
          have B3 := hide ((unhide S9).trans ((unhide HB).mono hs))
          go_wp2
          go_ret2
          exact ⟨ps, true, g, c, unhide F, by omega, rfl, unhide OG, unhide B3⟩
end Go.Proofs.YtpkgkekonhgonaaGreatDoor.SNetL
namespace Go.Proofs.YtpkgkekonhgonaaGreatDoor.NetLegsI
open Go.ChangeShapes Go.WideShapes Go.ChangeAt Go.RowKit BMem Bks ILists IBalsFit Ans Trd Net IPlace8 Errs NetT
open Lots (Says says_of NoOk)
open Bals (T3 el3 Amt)
open Tup8 (T8 el8)
open Triples (Own3)
open PostMore (sumK)
open ILotsFit (St.grown)
open SNetL (at_take take_nos open_next nodup_next has_dup mem_nos)
/-- No error where legs are told, else one. -/
def NetV (ok : Bool) (v : Value) : Prop := (ok = true ∧ v = .nilIface) ∨ (ok = false ∧ ∃ a, v = .iface 290 (.pointer (some a)))
/-- The legs of trades, and whether they are told, as an error. -/
def AnsL (b : Bk) (nos : List Int) (w : World) (e : Ending) (w' : World) : Prop :=
  ∃ (qs : List T3) (ok : Bool) (v : Value) (g c : Nat), IsNetL b nos qs ok ∧ NetV ok v ∧ qs.length ≤ 120 ∧ e = .returned (.tuple #[.slice (some ⟨g, 0, none⟩) qs.length c, v]) ∧ Own3 67 w' w.heap.size g qs.length c qs ∧ Below w.heap.size w w'
theorem ansL_no {b : Bk} {nos : List Int} {w W : World} {a : Addr} (h : IsNetL b nos [] false) (k : Below w.heap.size w W) : AnsL b nos w (.returned (.tuple #[.slice (some ⟨W.heap.size, 0, none⟩) 0 0, .iface 290 (.pointer (some a))])) (W.alloc (.cells #[] 67)).drew :=
  ⟨[], false, _, W.heap.size, 0, h, .inr ⟨rfl, a, rfl⟩, by simp, rfl, (fun o : Own3 67 _ _ _ 0 0 [] => o.below (Below.refl _ _).drew o.lt.2) (Triples.lit30 67 W w.heap.size k.size), (k.alloc k.size _).drew⟩
theorem legs_no {t : T8} (h : TOne t) : ∀ l ∈ legsT t, Bals.NoOk l.1 ∧ Bals.NoOk l.2.1 := by
  intro l hl
  obtain ⟨i, hi, rfl⟩ := Bals.mem_getD hl
  have := (SCarryP.legs_formed h).2 i hi
  exact ⟨this.1, this.2.1⟩
set_option maxRecDepth 100000 in
set_option maxHeartbeats 16000000 in
theorem iNetL (w : World) (x : Bx) (gN capN N : Nat) (nos : List Int) (ad : Nat → Addr) (ok : Ok x.b) (hr : Rd w x) (hc : nos.length ≤ capN) (hc2 : capN ≤ 9223372036854775807) (lN : gN < w.heap.size) (aN : Ints.At w gN nos) (E : Errs w 4 N ad) (hN : N ≤ w.heap.size) :
    Calls Tryz.prog 38 #[.agg #[.slice (some ⟨x.ga, 0, none⟩) x.b.ac.length x.ca, .slice (some ⟨x.gi, 0, none⟩) x.b.ic.length x.ci, .slice (some ⟨x.gb, 0, none⟩) x.b.bs.length x.cb, .slice (some ⟨x.gl, 0, none⟩) x.b.ls.length x.cl, .slice (some ⟨x.gt, 0, none⟩) x.b.ts.length x.ct, .int .i64 x.b.lot], .slice (some ⟨gN, 0, none⟩) nos.length capN] w (AnsL x.b nos w) := by
  have OK := hide ok
  have HR := hide hr
  have AN := hide aN
  have HE := hide E
  have AS := hide (asc ok.1.2.2.2.2.1)
  have S0 := hide (St.start hr 40)
  have nt := hr.nt
  have hmm := @run_makeMap Tryz.prog
  clear ok hr aN E
  by_cases n30 : nos.length ≤ 30
  rotate_left
  · have F := hide (show IsNetL x.b nos [] false from .inr ⟨fun k => n30 k.2.1, rfl, rfl⟩)
    have nb : decide ((nos.length : Int) > 30) = true := decide_eq_true (by omega)
    have B0 := hide (unhide S0).b
    have E0 := hide ((unhide HE).below (unhide B0) hN)
    have ve := (unhide E0).v 0 (by omega)
    have ve' := cell?_alloc_old (.cells #[] 67) ve
    have A9 := hide (ansL_no (a := ad 0) (unhide F) (unhide B0))
    rw [World.size_alloc] at A9
    clear n30
    go_enter Tryz.func38, Tryz.ntmps38
    go_wp2_with fail
    go_region
    all_goals
      go_wp2
      go_ret2
      exact unhide A9
  have nb : decide ((nos.length : Int) > 30) = false := decide_eq_false (by omega)
  have T0 := hide (TabN.tab_made (w.alloc (.cells #[.slice (some ⟨x.ga, 0, none⟩) x.b.ac.length x.ca, .slice (some ⟨x.gi, 0, none⟩) x.b.ic.length x.ci, .slice (some ⟨x.gb, 0, none⟩) x.b.bs.length x.cb, .slice (some ⟨x.gl, 0, none⟩) x.b.ls.length x.cl, .slice (some ⟨x.gt, 0, none⟩) x.b.ts.length x.ct, .int .i64 x.b.lot] 40)))
  have S1 := hide ((unhide S0).step (one_more (w.alloc (.cells #[.slice (some ⟨x.ga, 0, none⟩) x.b.ac.length x.ca, .slice (some ⟨x.gi, 0, none⟩) x.b.ic.length x.ci, .slice (some ⟨x.gb, 0, none⟩) x.b.bs.length x.cb, .slice (some ⟨x.gl, 0, none⟩) x.b.ls.length x.cl, .slice (some ⟨x.gt, 0, none⟩) x.b.ts.length x.ct, .int .i64 x.b.lot] 40)) (.map #[] 0)))
  have hB : w.heap.size < (w.alloc (.cells #[.slice (some ⟨x.ga, 0, none⟩) x.b.ac.length x.ca, .slice (some ⟨x.gi, 0, none⟩) x.b.ic.length x.ci, .slice (some ⟨x.gb, 0, none⟩) x.b.bs.length x.cb, .slice (some ⟨x.gl, 0, none⟩) x.b.ls.length x.cl, .slice (some ⟨x.gt, 0, none⟩) x.b.ts.length x.ct, .int .i64 x.b.lot] 40)).heap.size := by simp
  clear S0
  go_enter Tryz.func38, Tryz.ntmps38
  go_wp2
  rw [World.size_alloc] at T0 hB
  generalize w.heap.size + 1 = B at *
  go_loopw [7, 8, 9, 10, 19] (fun _ _ _ _ j wr => ∃ (k : Nat), j = .int .i64 k ∧ k ≤ nos.length ∧ Hid (TabN.Tab wr B (4 * k) (sumK (legsOf x.b.ts (nos.take k)))) ∧ Hid (AllOpen x.b.ts (nos.take k)) ∧ Hid ((nos.take k).Nodup) ∧ Hid (St w wr x)) (fun _ _ _ _ j _ => nos.length - (intOf j).toNat)
  case atStart => exact ⟨0, rfl, by omega, T0, hide (fun no hn => by simp at hn), hide (by simp), S1⟩
  case round =>
    clear T0 S1
    obtain ⟨k, rfl, hk, HT, HA, HD, HS⟩ := hrel
    by_cases t : k < nos.length
    · obtain ⟨no, hno⟩ : ∃ no, Hid (nos.getD k 0 = no) := ⟨_, rfl⟩
      have AW := hide ((unhide AN).below (unhide HS).b lN)
      have cN : wr.cell? ⟨gN, k, none⟩ = some (.int .i64 no) := by rw [← unhide hno]; exact (unhide AW) k t
      obtain ⟨c0, c1, c2, c3, c4, c5⟩ := (unhide HS).c
      go_wp2_with fail
      refine (iPlace wr x no (unhide HS).r AS).mono ?_
      rintro e u1 ⟨c, f, hp, hf, rfl, bb⟩
      have S2 := hide ((unhide HS).step bb)
      have T2 := hide ((unhide HT).below bb)
      have E2 := hide ((unhide HE).below (unhide S2).b hN)
      have A2 := hide ((unhide AN).below (unhide S2).b lN)
      clear bb HS HT AW cN c0 c1 c2 c3 c4 c5
      cases f
      · have hn := place_none hp hf (unhide AS)
        have F := hide (show IsNetL x.b nos [] false from .inr ⟨fun kk => by
          obtain ⟨m, hm, _⟩ := kk.2.2.1 _ (mem_nos t)
          rw [unhide hno] at hm
          exact hm.not hn, rfl, rfl⟩)
        have ve := (unhide E2).v 1 (by omega)
        have ve' := cell?_alloc_old (.cells #[] 67) ve
        have A9 := hide (ansL_no (a := ad 1) (unhide F) (unhide S2).b)
        clear hn hp hf
        go_wp2_with fail
        go_region
        all_goals
          go_wp2
          go_ret2
          exact unhide A9
      have KK := hide (place_at hp hf)
      have tn := (unhide KK).1
      have nc : c < 1048576 := by omega
      have TO := hide ((unhide OK).1.2.2.2.2.1.2 c tn).1
      have STT := hide (show (el8 x.b.ts c).2.2.2.2.2.2.2 ≠ 1 → IsNetL x.b nos [] false from fun hst => .inr ⟨fun kk => by
          obtain ⟨m, hm, hs⟩ := kk.2.2.1 _ (mem_nos t)
          rw [unhide hno] at hm
          rw [hm.same (unhide KK)] at hs
          exact hst hs, rfl, rfl⟩)
      have OP := hide (show (el8 x.b.ts c).2.2.2.2.2.2.2 = 1 → AllOpen x.b.ts (nos.take (k + 1)) from fun hst => open_next t (unhide HA) ⟨c, by rw [unhide hno]; exact unhide KK, hst⟩)
      have TR := hide (show legsOf x.b.ts (nos.take (k + 1)) = legsOf x.b.ts (nos.take k) ++ legsT (el8 x.b.ts c) from by
          rw [take_nos t, legs_append, unhide hno]
          show _ ++ (legsT (tradeNo x.b.ts no) ++ []) = _
          rw [trade_at (unhide KK), List.append_nil])
      obtain ⟨d0, d1, d2, d3, d4, d5, d6, d7⟩ := (unhide S2).r.rt c tn
      have c4 := (unhide S2).c.c4
      clear hp hf KK
      generalize el8 x.b.ts c = p at *
      obtain ⟨p0, p1, p2, p3, p4, p5, p6, p7⟩ := p
      simp only at STT OP d0 d1 d2 d3 d4 d5 d6 d7
      by_cases s1 : p7 = 1
      rotate_left
      · have F := hide ((unhide STT) s1)
        have sb : (p7 != 1) = true := SIssue.ne_true s1
        have ve := (unhide E2).v 2 (by omega)
        have ve' := cell?_alloc_old (.cells #[] 67) ve
        have A9 := hide (ansL_no (a := ad 2) (unhide F) (unhide S2).b)
        clear s1
        go_wp2_with fail
        go_region
        all_goals
          go_wp2
          go_ret2
          exact unhide A9
      have HA' := hide ((unhide OP) s1)
      subst s1
      obtain ⟨b1, h1⟩ := Bals.says_of (no ∈ nos.take k)
      have H1 := hide h1
      clear h1 STT OP HA
      go_wp2_with fail
      refine (Post.iHas u1 gN k capN (nos.take k) no b1 (by simp; omega) (by omega) (at_take (unhide A2) k) (unhide H1)).mono ?_
      rintro e u2 ⟨rfl, rfl⟩
      cases b1
      rotate_left
      · have F := hide (show IsNetL x.b nos [] false from .inr ⟨fun kk => has_dup t (by rw [unhide hno]; exact (unhide H1).yes) kk.2.2.2.1, rfl, rfl⟩)
        have ve := (unhide E2).v 2 (by omega)
        have ve' := cell?_alloc_old (.cells #[] 67) ve
        have A9 := hide (ansL_no (a := ad 2) (unhide F) (unhide S2).b)
        go_wp2_with fail
        go_region
        all_goals
          go_wp2
          go_ret2
          exact unhide A9
      have HD' := hide (nodup_next t (unhide HD) (by rw [unhide hno]; exact (unhide H1).no))
      have q1 : 0 ≤ p4 := by have := (unhide TO).2.2.2.2.2.2.1.1; simp at this; omega
      have q2 : p4 ≤ 1000000000000000 := (unhide TO).2.2.2.2.2.2.1.2
      have r1 : 0 ≤ p6 := (unhide TO).2.2.2.2.2.2.2.1.1
      have r2 : p6 ≤ 1000000000000000 := (unhide TO).2.2.2.2.2.2.2.1.2
      have LA := hide (fun l hl => legsOf_amt (unhide OK).1.2.2.2.2.1 (unhide HA') l (by rw [unhide TR]; exact hl))
      have LL := hide (show (legsOf x.b.ts (nos.take k) ++ legsT (p0, p1, p2, p3, p4, p5, p6, 1)).length ≤ 200 from by rw [← unhide TR, legs_len, List.length_take]; omega)
      have LN := hide (legs_no (unhide TO))
      clear HD H1
      go_wp2_with fail
      refine (ISet.iLegs _ p0 p1 p2 p3 p4 p5 p6 1 q1 q2 r1 r2).mono ?_
      rintro e u3 ⟨g3, c3, rfl, o3, bb⟩
      have S3 := hide ((unhide S2).step bb)
      have T3 := hide ((unhide T2).below bb)
      have O3 := hide o3
      clear bb o3 S2 T2 d0 d1 d2 d3 d4 d5 d6 d7 c4 A2 E2
      go_wp2_with fail
      refine (iAdd u3 _ B (4 * k) g3 c3 (legsOf x.b.ts (nos.take k)) (legsT (p0, p1, p2, p3, p4, p5, p6, 1)) (by show 4 * k + 4 ≤ 1000; omega) (unhide T3) (unhide O3) (unhide LA) (unhide LL) (unhide LN)).mono ?_
      rintro e u4 ⟨rfl, t4, g4⟩
      have S4 := hide (St.grown (unhide HR) (unhide S3) g4 hB)
      have T4 := hide (show TabN.Tab u4 B (4 * (k + 1)) (sumK (legsOf x.b.ts (nos.take (k + 1)))) from by rw [unhide TR]; exact t4)
      clear t4 g4 S3 T3 O3 LA LL LN
      go_wp2
      go_roundw
      case rel => exact ⟨k + 1, by go_num, by omega, T4, HA', HD', S4⟩
      case measure => simp [intOf]; omega
    · obtain rfl : k = nos.length := by omega
      rw [List.take_length] at HT HA HD
      have CAN := hide (show (∀ a i, Amt (sumK (legsOf x.b.ts nos) a i)) → CanNet x.b nos from fun h => ⟨unhide OK, n30, unhide HA, unhide HD, h⟩)
      have E2 := hide ((unhide HE).below (unhide HS).b hN)
      have hs := (unhide HS).b.size
      go_wp2_with fail
      refine (iTold wr B (4 * nos.length) N (sumK (legsOf x.b.ts nos)) ad (by omega) (unhide HT) (unhide E2) (by omega)).mono ?_
      rintro e u2 ⟨qs, g, c, v, ht, hl, rfl, o2, b2⟩
      have O2 := hide (o2.rebase (base' := w.heap.size) (by have := o2.lt.1; omega))
      have B2 := hide ((unhide HS).b.trans (b2.mono hs))
      have R := hide (show ∃ ok, IsNetL x.b nos qs ok ∧ NetV ok v from by
        rcases ht with ⟨h1, h2, h3⟩ | ⟨h1, h2, h3⟩
        · exact ⟨true, .inl ⟨(unhide CAN) h1, h2, rfl⟩, .inl ⟨rfl, h3⟩⟩
        · exact ⟨false, .inr ⟨fun kk => h1 kk.2.2.2.2, h2, rfl⟩, .inr ⟨rfl, _, h3⟩⟩)
      clear ht o2 b2
      go_wp2
      go_ret2
      obtain ⟨ok, h1, h2⟩ := unhide R
      exact ⟨qs, ok, v, g, c, h1, h2, by omega, rfl, unhide O2, unhide B2⟩
set_option maxRecDepth 100000 in
set_option maxHeartbeats 8000000 in
theorem iNetLegs (w : World) (x : Bx) (gN capN N : Nat) (nos : List Int) (ad : Nat → Addr) (hr : Rd w x) (hc : nos.length ≤ capN) (hc2 : capN ≤ 9223372036854775807) (lN : gN < w.heap.size) (aN : Ints.At w gN nos) (E : Errs w 4 N ad) (hN : N ≤ w.heap.size) :
    Calls Tryz.prog 9 #[.agg #[.slice (some ⟨x.ga, 0, none⟩) x.b.ac.length x.ca, .slice (some ⟨x.gi, 0, none⟩) x.b.ic.length x.ci, .slice (some ⟨x.gb, 0, none⟩) x.b.bs.length x.cb, .slice (some ⟨x.gl, 0, none⟩) x.b.ls.length x.cl, .slice (some ⟨x.gt, 0, none⟩) x.b.ts.length x.ct, .int .i64 x.b.lot], .slice (some ⟨gN, 0, none⟩) nos.length capN] w fun e w' => ∃ (qs : List T3) (ok : Bool) (g c : Nat), IsNetL x.b nos qs ok ∧ qs.length ≤ 120 ∧ e = .returned (.tuple #[.slice (some ⟨g, 0, none⟩) qs.length c, .bool ok]) ∧ Own3 67 w' w.heap.size g qs.length c qs ∧ Below w.heap.size w w' := by
  obtain ⟨b0, h0⟩ := says_of (Ok x.b)
  have H0 := hide h0
  have AN := hide aN
  have HE := hide E
  have S0 := hide (St.start hr 40)
  clear h0 aN E hr
  go_enter Tryz.func9, Tryz.ntmps9
  go_wp2_with fail
  refine (IBooksOk.iBooksOk _ x b0 (unhide S0).r (unhide H0)).mono ?_
  rintro e w1 ⟨rfl, bb⟩
  have S1 := hide ((unhide S0).step bb)
  have hs := (unhide S1).b.size
  clear bb S0
  cases b0
  · have F := hide (show IsNetL x.b nos [] false from .inr ⟨fun k => (unhide H0).no k.1, rfl, rfl⟩)
    have O1 := hide (Triples.lit30 67 w1 w.heap.size hs)
    have B1 := hide ((unhide S1).b.alloc hs (.cells #[] 67))
    go_wp2
    go_ret2
    exact ⟨[], false, w1.heap.size, 0, unhide F, by simp, rfl, unhide O1, unhide B1⟩
  have OK := hide (unhide H0).yes
  obtain ⟨c0, c1, c2, c3, c4, c5⟩ := (unhide S1).c
  clear H0
  go_wp2_with fail
  refine (iNetL _ x gN capN N nos ad (unhide OK) (unhide S1).r hc hc2 (by omega) ((unhide AN).below (unhide S1).b lN) ((unhide HE).below (unhide S1).b hN) (by omega)).mono ?_
  rintro e w2 ⟨qs, ok, v, g, c, h1, h2, h3, rfl, o2, b2⟩
  have F := hide h1
  have O2 := hide (o2.rebase (base' := w.heap.size) (by have := o2.lt.1; omega))
  have B2 := hide ((unhide S1).b.trans (b2.mono hs))
  clear h1 o2 b2 c0 c1 c2 c3 c4 c5
  rcases h2 with ⟨rfl, rfl⟩ | ⟨rfl, a, rfl⟩
  all_goals
    go_wp2_with fail
    go_quiet (fail)
    go_wp2
    go_ret2
    exact ⟨qs, _, g, c, unhide F, h3, rfl, (unhide O2).below (Tup8.below_drewN (Below.refl _ _) _) (unhide O2).lt.2, Tup8.below_drewN (unhide B2) _⟩
end Go.Proofs.YtpkgkekonhgonaaGreatDoor.NetLegsI
namespace Go.Proofs.YtpkgkekonhgonaaGreatDoor.LaidE
open Go.ChangeShapes Go.WideShapes Go.ChangeAt Go.RowKit Errs
theorem star : "*" ++ "errors.errorString" = "*errors.errorString" := by decide
set_option maxRecDepth 100000 in
theorem rowE (u : TypeId) (h : Tryz.prog.typeName? 3 u = some "*errors.errorString") : u = 290 :=
  typeName_ptr_named (nm := "errors.errorString") (by rw [star]; kernel_rfl) (by kernel_rfl) (by decide) u (by rw [star]; exact h)
/-- Each name holds an error of errors.New's make. -/
def Fits (W : World) : List (String × DataW Unit) → List Addr → Prop
  | [], [] => True
  | x :: l, a :: al => (W.var? Tryz.prog x.1 = some #[.iface 290 (.pointer (some a))] ∧ ∃ c t, W.heap[a.block]? = some (.cells c t (0, 0))) ∧ Fits W l al
  | _, _ => False
def Named (l : List (String × DataW Unit)) : Prop := ∀ x ∈ l, (∃ g, Tryz.prog.globalNamed x.1 = some g ∧ (Tryz.prog.globals[g]?).map (·.type) = some 77) ∧ ∃ t, x.2 = .iface "*errors.errorString" (.ptr (.agg [.lit (.string t)]))
set_option maxRecDepth 100000 in
theorem fits_of {W : World} : ∀ (l : List (String × DataW Unit)) (ps : List MemPlace), Named l → DataW.LaidVars Tryz.prog W l ps → (∀ b off, MemPlace.cell b off ∈ ps → (∃ c t, W.heap[b]? = some (.cells c t (0, 0))) ∧ ∀ u v, W.cell? ⟨b, off, none⟩ = some (.iface u v) → Value.okWide Tryz.prog W .any 0 u v) → ∃ al, Fits W l al ∧ (∀ a ∈ al, MemPlace.cell a.block a.off ∈ ps) ∧ (ps.Nodup → al.Nodup)
  | [], ps, _, h, _ => ⟨[], trivial, fun a ha => by simp at ha, fun _ => by simp⟩
  | (n, d) :: l, ps, hn, h, hr => by
    obtain ⟨⟨g', hg', ht'⟩, t', hd'⟩ := hn (n, d) (by simp)
    obtain ⟨g, t, cs, fuel, p, q, hg, ht, hv, hd, hq, rfl⟩ := h
    obtain rfl := Option.some.inj (hg.symm.trans hg')
    obtain rfl := Option.some.inj (ht.symm.trans ht')
    simp only at hd'
    subst hd'
    obtain ⟨cs⟩ := cs
    have ok : ∀ u v, cs = [.iface u v] → Value.okWide Tryz.prog W .any 0 u v := fun u v e => by
      subst e
      exact (hr g 0 (by simp [MemPlace.row])).2 u v (by simpa using World.var?_cell hg hv 0)
    obtain ⟨a, s, rfl, hc, _, _, rfl⟩ := errorString_of_trod Tryz.underlying77 rowE Tryz.underlying290 Tryz.underlying314 rfl rfl Tryz.underlying9 (by kernel_rfl) (by kernel_rfl) hd ok
    obtain ⟨al, h1, h2, h3⟩ := fits_of l q (fun x hx => hn x (by simp [hx])) hq (fun b off hm => hr b off (List.mem_append_right _ hm))
    have ma : MemPlace.cell a.block a.off ∈ MemPlace.row a 1 := by simp [MemPlace.row]
    refine ⟨a :: al, ⟨⟨hv, (hr a.block a.off (List.mem_append_left _ (List.mem_append_right _ ma))).1⟩, h1⟩, fun b hb => ?_, fun nd => ?_⟩
    · rcases List.mem_cons.1 hb with rfl | hb
      · exact List.mem_append_left _ (List.mem_append_right _ ma)
      · exact List.mem_append_right _ (h2 b hb)
    · obtain ⟨_, n2, n3⟩ := List.nodup_append.1 nd
      exact List.nodup_cons.2 ⟨fun m => n3 _ (List.mem_append_right _ ma) _ (h2 a m) rfl, h3 n2⟩
theorem fits_laid {W : World} {l : List (String × DataW Unit)} (hn : Named l) (h : laidMet Tryz.prog l W) : ∃ al, Fits W l al ∧ al.Nodup := by
  obtain ⟨ps, h1, h2, h3⟩ := h
  obtain ⟨al, k1, _, k3⟩ := fits_of l ps hn h1 h3
  exact ⟨al, k1, k3 h2⟩
theorem var_lt {W : World} {n : String} {g : Nat} {cs : Array Value} (hg : Tryz.prog.globalNamed n = some g) (h : W.var? Tryz.prog n = some cs) : g < W.heap.size := by
  unfold World.var? at h
  simp only [hg, Option.bind_some] at h
  rcases Nat.lt_or_ge g W.heap.size with q | q
  · exact q
  · simp [Array.getElem?_eq_none q] at h
theorem var_below {W W' : World} {n : String} {cs : Array Value} (h : W.var? Tryz.prog n = some cs) (b : Below W.heap.size W W') : W'.var? Tryz.prog n = some cs := by
  cases hg : Tryz.prog.globalNamed n with
  | none => unfold World.var? at h; simp [hg] at h
  | some g =>
    have lt := var_lt hg h
    unfold World.var? at h ⊢
    simp only [hg, Option.bind_some] at h ⊢
    rw [b.block g lt]
    exact h
/-- Variables that hold these values. -/
def Holds (W : World) : List String → List Nat → List Value → Prop
  | [], [], [] => True
  | n :: ns, g :: gs, x :: xs => (Tryz.prog.globalNamed n = some g ∧ (Tryz.prog.globals[g]?).map (·.type) = some 77 ∧ W.var? Tryz.prog n = some #[x] ∧ IsIface x) ∧ Holds W ns gs xs
  | _, _, _ => False
theorem Holds.below {W W' : World} (b : Below W.heap.size W W') : ∀ {ns : List String} {gs : List Nat} {xs : List Value}, Holds W ns gs xs → Holds W' ns gs xs
  | [], [], [], _ => trivial
  | _ :: _, _ :: _, _ :: _, ⟨⟨h1, h2, h3, h4⟩, h5⟩ => ⟨⟨h1, h2, var_below h3 b, h4⟩, h5.below b⟩
  | [], [], _ :: _, h => h.elim
  | [], _ :: _, _, h => h.elim
  | _ :: _, [], _, h => h.elim
  | _ :: _, _ :: _, [], h => h.elim
theorem Holds.read {H : Type} (enc : TypeId × Value → H) {W : World} (sp : Nat → Bool) : ∀ {ns : List String} {gs : List Nat} {xs : List Value}, Holds W ns gs xs → DataW.TrodVars enc Tryz.prog W sp ns (xs.map (tok enc)) (gs.map (MemPlace.cell · 0))
  | [], [], [], _ => rfl
  | _ :: _, g :: _, x :: _, ⟨⟨h1, h2, h3, h4⟩, h5⟩ => ⟨g, 77, #[x], 1, [], _, h1, h2, h3, trod_held Tryz.underlying77 h4 0, h5.read enc sp, rfl⟩
  | [], [], _ :: _, h => h.elim
  | [], _ :: _, _, h => h.elim
  | _ :: _, [], _, h => h.elim
  | _ :: _, _ :: _, [], h => h.elim
/-- Five addresses, by their numbers. -/
def at5 (a0 a1 a2 a3 a4 : Addr) (k : Nat) : Addr := if k = 0 then a0 else if k = 1 then a1 else if k = 2 then a2 else if k = 3 then a3 else a4
theorem cell_of {W : World} {n : String} {g : Nat} {x : Value} (hg : Tryz.prog.globalNamed n = some g) (h : W.var? Tryz.prog n = some #[x]) : W.cell? ⟨g, 0, none⟩ = some x := by simpa using World.var?_cell hg h 0
theorem row_lt {W : World} {b : Nat} (h : ∃ c t, W.heap[b]? = some (.cells c t (0, 0))) : b < W.heap.size := by
  obtain ⟨c, t, e⟩ := h
  exact (Array.getElem?_eq_some_iff.1 e).1
end Go.Proofs.YtpkgkekonhgonaaGreatDoor.LaidE
