/- Contracts of the model's DrawLotTake and DrawLotsScale: a list in memory of the call's own and some numbers, whatever the bytes are. -/
import Derived.Test.YtdnpjjbphamcmaaDraw5L
namespace Go.Proofs.Ytdnpjjbphamcmaa.Draw6L
open Go.ChangeShapes Go.WideShapes Go.ChangeAt Go.RowKit Tup5 Lots Takes SOpen SOf Draw5L
open Draw (CodeAt Cur Only Moved below once new pick own_only moved_start moved_below moved_alloc moved_grown)
set_option linter.unusedVariables false
set_option linter.unusedSimpArgs false

/-- What is drawn: a list, and an account and an instrument. -/
def DrawnKey (w : World) (e : Ending) (w' : World) : Prop :=
  ∃ (ps : List T5) (g' c' : Nat) (x y : Int), e = .returned (.tuple #[.slice (some ⟨g', 0, none⟩) ps.length c', .int .i64 x, .int .i64 y]) ∧ Own5 40 w' w.heap.size g' ps.length c' ps ∧ ps.length ≤ 121 ∧ Below w.heap.size w w'

set_option maxRecDepth 100000 in
theorem drawKey (w : World) (a : Option Addr) (len cap : Nat) (hl : len ≤ 1048576) (hcode : CodeAt w a len) :
    Calls Try.prog 42 #[.slice a len cap] w (DrawnKey w) := by
  go_enter Try.func42, Try.ntmps42
  go_wp2_with fail
  refine (new w a len cap hl hcode).mono ?_
  rintro e w1 ⟨c, rfl, h1⟩
  go_wp2_with fail
  refine (drawLots w w1 c a len cap hl hcode h1).mono ?_
  rintro e w2 ⟨ps, gA, cA, rfl, oA, lA, h2⟩
  have c1 := h1.hi
  have gAc : gA ≠ c := by have := oA.lt.1; omega
  have oA := oA.rebase (base' := w.heap.size) (by have := oA.lt.1; have := h1.bel.size; omega)
  clear h1
  go_wp2_with fail
  refine (below w _ c a len cap 4 hl hcode h2.1 (by omega)).mono ?_
  rintro e w3 ⟨⟨x, x0, x1, rfl⟩, h3⟩
  have oA := own_only oA h3.2 gAc
  clear h2
  go_wp2_with fail
  refine (below w _ c a len cap 2 hl hcode h3.1 (by omega)).mono ?_
  rintro e w4 ⟨⟨y, y0, y1, rfl⟩, h4⟩
  have oA := own_only oA h4.2 gAc
  have B := h4.1.bel
  clear h3 h4
  go_wp2
  go_ret3
  exact ⟨ps, gA, cA, 1 + x, 1 + y, rfl, oA, lA, B⟩

/-- Two numbers, ten numbers: to pick one of them. -/
def of2 (x y : Int) (j : Nat) : Int := if j = 0 then x else y
theorem of2_cells (w : World) (t : TypeId) (x y : Int) (j : Nat) (hj : j < 2) : (w.alloc (Obj.cells #[Value.int .i64 x, Value.int .i64 y] t)).cell? ⟨w.heap.size, j, none⟩ = some (.int .i64 (of2 x y j)) := by
  rw [World.cell?_alloc_at _ _ _ _ rfl]
  match j, hj with
  | 0, _ => rfl
  | 1, _ => rfl
def of10 (x2 x3 x4 x5 x6 : Int) (j : Nat) : Int := ([0, 1, x2, x3, x4, x5, x6, -1, 1000000000000000, 1000000000000001] : List Int).getD j 0
theorem of10_cells (w : World) (t : TypeId) (x2 x3 x4 x5 x6 : Int) (j : Nat) (hj : j < 10) : (w.alloc (Obj.cells #[Value.int .i64 0, Value.int .i64 1, Value.int .i64 x2, Value.int .i64 x3, Value.int .i64 x4, Value.int .i64 x5, Value.int .i64 x6, Value.int .i64 (-1), Value.int .i64 1000000000000000, Value.int .i64 1000000000000001] t)).cell? ⟨w.heap.size, j, none⟩ = some (.int .i64 (of10 x2 x3 x4 x5 x6 j)) := by
  rw [World.cell?_alloc_at _ _ _ _ rfl]
  match j, hj with
  | 0, _ => rfl
  | 1, _ => rfl
  | 2, _ => rfl
  | 3, _ => rfl
  | 4, _ => rfl
  | 5, _ => rfl
  | 6, _ => rfl
  | 7, _ => rfl
  | 8, _ => rfl
  | 9, _ => rfl

/-- What is drawn for a taking. -/
def DrawnTake (w : World) (e : Ending) (w' : World) : Prop :=
  ∃ (ps : List T5) (g' c' : Nat) (x y q way : Int), e = .returned (.tuple #[.slice (some ⟨g', 0, none⟩) ps.length c', .int .i64 x, .int .i64 y, .int .i64 q, .int .i64 way]) ∧ Own5 40 w' w.heap.size g' ps.length c' ps ∧ ps.length ≤ 121 ∧ Below w.heap.size w w'

set_option maxRecDepth 100000 in
theorem drawTake (w : World) (a : Option Addr) (len cap : Nat) (hl : len ≤ 1048576) (hcode : CodeAt w a len) :
    Calls Try.prog 16 #[.slice a len cap] w (DrawnTake w) := by
  go_enter Try.func16, Try.ntmps16
  go_wp2_with fail
  refine (drawKey w a len cap hl hcode).mono ?_
  rintro e w1 ⟨ps, gA, cA, x, y, rfl, oA, lA, b1⟩
  have hcode1 := hcode.below b1
  go_wp2_with fail
  refine (new w1 a len cap hl hcode1).mono ?_
  rintro e w2 ⟨c, rfl, h2⟩
  have gAl := oA.lt.2
  have gAc : gA ≠ c := by have := h2.lo; omega
  have oA := oA.below h2.bel gAl
  obtain ⟨ok, OK⟩ := says_of (Right ps)
  go_wp2_with fail
  refine (sLotsQty w2 gA ps.length cA ps x y ok rfl (by omega) oA.lt.2 oA.at OK).mono ?_
  rintro e w3 ⟨rfl, b3⟩
  have oA := oA.below b3 oA.lt.2
  have h3 := moved_below (moved_start h2) b3
  have QB := of_good x y OK
  have Q0 := (sum_pos _ QB.1).1
  have Q1 := QB.2.1
  clear QB h2 OK
  generalize sumQ (ofL ps x y ok) = q at *
  go_wp2_with fail
  refine (below w1 _ c a len cap 3 hl hcode1 h3.1 (by omega)).mono ?_
  rintro e w4 ⟨⟨v, v0, v1, rfl⟩, h4⟩
  have oA := own_only oA h4.2 gAc
  have h4 := Moved.trans h3 h4
  clear h3
  go_wp2_with fail
  refine (once w1 _ c a len cap 20 hl hcode1 h4.1 (by omega)).mono ?_
  rintro e w5 ⟨⟨tb, rfl⟩, h5⟩
  have oA := own_only oA h5.2 gAc
  have h5 := Moved.trans h4 h5
  clear h4
  cases tb
  · skip
    go_wp2_with fail
    refine (once w1 _ c a len cap 6 hl hcode1 h5.1 (by omega)).mono ?_
    rintro e w6 ⟨⟨tb, rfl⟩, h6⟩
    have oA := own_only oA h6.2 gAc
    have h6 := Moved.trans h5 h6
    clear h5
    cases tb
    · go_wp2_with fail
      refine (once w1 _ c a len cap 6 hl hcode1 h6.1 (by omega)).mono ?_
      rintro e w7 ⟨⟨tb, rfl⟩, h7⟩
      have oA := own_only oA h7.2 gAc
      have h7 := Moved.trans h6 h7
      clear h6
      cases tb
      · go_wp2_with fail
        refine (below w1 _ c a len cap (q + 2) hl hcode1 h7.1 (by omega)).mono ?_
        rintro e w8 ⟨⟨z, z0, z1, rfl⟩, h8⟩
        have oA := own_only oA h8.2 gAc
        have B := Tup5.next b1 (Moved.trans h7 h8).1.bel
        clear h7 h8
        go_wp2
        refine bodyPost_ret (v := .tuple #[.slice (some ⟨gA, 0, none⟩) ps.length cA, .int .i64 x, .int .i64 y, .int .i64 z, .int .i64 (1 + v)]) (by simp [results, Try.results16, go_sem]) rfl ⟨ps, gA, cA, x, y, z, 1 + v, rfl, oA, lA, B⟩
      · have B := Tup5.next b1 h7.1.bel
        clear h7
        go_wp2
        refine bodyPost_ret (v := .tuple #[.slice (some ⟨gA, 0, none⟩) ps.length cA, .int .i64 x, .int .i64 y, .int .i64 q, .int .i64 (1 + v)]) (by simp [results, Try.results16, go_sem]) rfl ⟨ps, gA, cA, x, y, q, 1 + v, rfl, oA, lA, B⟩
    · have B := Tup5.next b1 h6.1.bel
      clear h6
      go_wp2
      refine bodyPost_ret (v := .tuple #[.slice (some ⟨gA, 0, none⟩) ps.length cA, .int .i64 x, .int .i64 y, .int .i64 (q + 1), .int .i64 (1 + v)]) (by simp [results, Try.results16, go_sem]) rfl ⟨ps, gA, cA, x, y, q + 1, 1 + v, rfl, oA, lA, B⟩
  · have hiX := h5.1.hi
    go_wp2_with fail
    refine (pick w1 _ c a len cap w5.heap.size 2 (of2 0 4) hl hcode1 (Draw.Cur.alloc h5.1 _ _) (by omega) (by omega) (by simp) (by omega) (of2_cells w5 3 _ _)).mono ?_
    rintro e w9 ⟨⟨j, hj, rfl⟩, h9⟩
    have oA := own_only (oA.alloc _) h9.2 gAc
    have h5 := Moved.trans (moved_alloc h5 _ 3) h9
    generalize of2 0 4 j = u at *
    clear h9
    go_wp2_with fail
    refine (once w1 _ c a len cap 6 hl hcode1 h5.1 (by omega)).mono ?_
    rintro e w6 ⟨⟨tb, rfl⟩, h6⟩
    have oA := own_only oA h6.2 gAc
    have h6 := Moved.trans h5 h6
    clear h5
    cases tb
    · go_wp2_with fail
      refine (once w1 _ c a len cap 6 hl hcode1 h6.1 (by omega)).mono ?_
      rintro e w7 ⟨⟨tb, rfl⟩, h7⟩
      have oA := own_only oA h7.2 gAc
      have h7 := Moved.trans h6 h7
      clear h6
      cases tb
      · go_wp2_with fail
        refine (below w1 _ c a len cap (q + 2) hl hcode1 h7.1 (by omega)).mono ?_
        rintro e w8 ⟨⟨z, z0, z1, rfl⟩, h8⟩
        have oA := own_only oA h8.2 gAc
        have B := Tup5.next b1 (Moved.trans h7 h8).1.bel
        clear h7 h8
        go_wp2
        refine bodyPost_ret (v := .tuple #[.slice (some ⟨gA, 0, none⟩) ps.length cA, .int .i64 x, .int .i64 y, .int .i64 z, .int .i64 (u)]) (by simp [results, Try.results16, go_sem]) rfl ⟨ps, gA, cA, x, y, z, u, rfl, oA, lA, B⟩
      · have B := Tup5.next b1 h7.1.bel
        clear h7
        go_wp2
        refine bodyPost_ret (v := .tuple #[.slice (some ⟨gA, 0, none⟩) ps.length cA, .int .i64 x, .int .i64 y, .int .i64 q, .int .i64 (u)]) (by simp [results, Try.results16, go_sem]) rfl ⟨ps, gA, cA, x, y, q, u, rfl, oA, lA, B⟩
    · have B := Tup5.next b1 h6.1.bel
      clear h6
      go_wp2
      refine bodyPost_ret (v := .tuple #[.slice (some ⟨gA, 0, none⟩) ps.length cA, .int .i64 x, .int .i64 y, .int .i64 (q + 1), .int .i64 (u)]) (by simp [results, Try.results16, go_sem]) rfl ⟨ps, gA, cA, x, y, q + 1, u, rfl, oA, lA, B⟩

/-- What is drawn for a scaling. -/
def DrawnScale (w : World) (e : Ending) (w' : World) : Prop :=
  ∃ (ps : List T5) (g' c' : Nat) (x y q : Int), e = .returned (.tuple #[.slice (some ⟨g', 0, none⟩) ps.length c', .int .i64 x, .int .i64 y, .int .i64 q]) ∧ Own5 40 w' w.heap.size g' ps.length c' ps ∧ ps.length ≤ 121 ∧ Below w.heap.size w w'

set_option maxRecDepth 100000 in
theorem drawScale (w : World) (a : Option Addr) (len cap : Nat) (hl : len ≤ 1048576) (hcode : CodeAt w a len) :
    Calls Try.prog 27 #[.slice a len cap] w (DrawnScale w) := by
  go_enter Try.func27, Try.ntmps27
  go_wp2_with fail
  refine (drawKey w a len cap hl hcode).mono ?_
  rintro e w1 ⟨ps, gA, cA, x, y, rfl, oA, lA, b1⟩
  have hcode1 := hcode.below b1
  go_wp2_with fail
  refine (new w1 a len cap hl hcode1).mono ?_
  rintro e w2 ⟨c, rfl, h2⟩
  have gAl := oA.lt.2
  have gAc : gA ≠ c := by have := h2.lo; omega
  have oA := oA.below h2.bel gAl
  obtain ⟨ok, OK⟩ := says_of (Right ps)
  go_wp2_with fail
  refine (sLotsQty w2 gA ps.length cA ps x y ok rfl (by omega) oA.lt.2 oA.at OK).mono ?_
  rintro e w3 ⟨rfl, b3⟩
  have oA := oA.below b3 oA.lt.2
  have h3 := moved_below (moved_start h2) b3
  have QB := of_good x y OK
  have Q0 := (sum_pos _ QB.1).1
  have Q1 := QB.2.1
  have hiX := h3.1.hi
  clear QB h2 OK
  generalize sumQ (ofL ps x y ok) = q at *
  go_wp2_with fail
  refine (pick w1 _ c a len cap w3.heap.size 10 (of10 _ _ _ _ _) hl hcode1 (Draw.Cur.alloc h3.1 _ _) (by omega) (by omega) (by simp) (by omega) (of10_cells w3 3 _ _ _ _ _)).mono ?_
  rintro e w9 ⟨⟨j, hj, rfl⟩, h9⟩
  have oA := own_only (oA.alloc _) h9.2 gAc
  have B := Tup5.next b1 (Moved.trans (moved_alloc h3 _ 3) h9).1.bel
  clear h9 h3
  generalize of10 _ _ _ _ _ j = u at *
  go_wp2
  refine bodyPost_ret (v := .tuple #[.slice (some ⟨gA, 0, none⟩) ps.length cA, .int .i64 x, .int .i64 y, .int .i64 u]) (by simp [results, Try.results27, go_sem]) rfl ⟨ps, gA, cA, x, y, u, rfl, oA, lA, B⟩

end Go.Proofs.Ytdnpjjbphamcmaa.Draw6L
