/- Disks: the specification's copy of a disk. -/
import Derived.Test.YtejbbhjhinkcdaaSLess14
namespace Go.Proofs.Ytejbbhjhinkcdaa.SCopy14
open Go.ChangeShapes Go.WideShapes Go.ChangeAt Go.RowKit Fil14 DiskH14 DkH14 SDk14 SOk14 SRd14 App14 SLess14
open DkH14 (row_step)
set_option linter.unusedVariables false
set_option linter.unusedSimpArgs false
/-- Files appended to a list of the call's own, at a step of a region that draws its order. -/
theorem step_many (u : World) {ops : Array Oper} {o : Oper} {a : Act} {K : Act → World → Prop} {Q : Exit → Act → World → Prop} {E : Prop} (hgd : o.guard = none) (s x : Operand)
    (ho : o.op = .call { callee := .builtin .append, args := #[s, x], argTypes := #[24, 24] }) (base g n cap : Nat) (ps qs : List TF) (xa : Option Addr) (xc : Nat) (hs : a.eval s = .slice (some ⟨g, 0, none⟩) n cap) (hx : a.eval x = .slice xa qs.length xc) (hown : OwnF 32 u base g n cap ps) (hq : qs.length = 0 ∨ ∃ vb, xa = some ⟨vb, 0, none⟩ ∧ AtF u vb qs) (hn : n ≤ 1048576) (hm : qs.length ≤ 1048576) (hb : base ≤ u.heap.size)
    (h : ∀ g' c' w', OwnF 32 w' base g' (n + qs.length) c' (ps ++ qs) → u.grownBy w' (some g) → (g' = g ∨ g' = u.heap.size) → K (a.put o.dst (.slice (some ⟨g', 0, none⟩) (n + qs.length) c')) w') : if Region.wanted o (yielded ops a.tmps) = true then Oper.wp Try.prog o a u K Q else E := by
  obtain ⟨i0, hi, hz0, hz1, hz2⟩ := info_parts HelpF14.info2
  have hw : Region.wanted o (yielded ops a.tmps) = true := by simp [Region.wanted, hgd]
  rw [if_pos hw]
  rcases hq with hq | ⟨vb, rfl, hq⟩
  · have e : qs = [] := List.length_eq_zero_iff.1 hq
    subst e
    obtain ⟨hle, hcap⟩ : n ≤ cap ∧ True := by
      rcases hown.2 with ⟨h1, _⟩ | ⟨g', c, cur, h1, h2, h3, h4, _⟩
      · simp at h1
      · obtain ⟨_, e2⟩ : g = g' ∧ cap = c := by simpa using h1
        exact ⟨by omega, trivial⟩
    have hr : (Builtin.append_ #[24, 24] o.type #[.slice (some ⟨g, 0, none⟩) n cap, .slice xa 0 xc]).run Try.prog u = .ok (.slice (some ⟨g, 0, none⟩) n cap) u := by
      cases xa <;> simp [Builtin.append_, run_underlying Try.underlying24, sizeOf, typeInfo, hi, hle, storeCells, go_sem]
    unfold Oper.wp execOp
    simp only [List.length_nil] at hx
    simp only [ho, resolve, invoke, builtin, Sem.run_bind, Sem.run_pure, Result.andThen_ok, List.map_toArray, List.map_cons, List.map_nil, hs, hx, hr]
    have := h g cap u (by simpa using hown) (World.grownBy.refl _ _) (.inl rfl)
    simp only [List.length_nil, Nat.add_zero] at this
    exact this
  · obtain ⟨v', w', hr, own', gr', nil', loc'⟩ := run_append_own_at (P := Try.prog) u base 24 o.type 32 i0 (.agg #[.int .i64 0, .string ByteArray.empty, .string ByteArray.empty]) 3 40 Try.underlying24 hi hz0 hz1 hz2 rfl (by decide) (.slice (some ⟨g, 0, none⟩) n cap) n (flatF ps) hown ⟨vb, 0, none⟩ qs.length xc (flatF qs) (flatF_len qs) hq.cells (fun u hu => flatF_one u qs hu) (by unfold maxLen; omega) (by omega) hb
    unfold Oper.wp execOp
    simp only [ho, resolve, invoke, builtin, Sem.run_bind, Sem.run_pure, Result.andThen_ok, List.map_toArray, List.map_cons, List.map_nil, hs, hx, hr]
    rw [← flatF_append] at own'
    rcases own'.2 with ⟨e1, _⟩ | ⟨g', c', cur, rfl, _⟩
    · rw [e1] at nil'; simp at nil'
    · exact h g' c' w' own' gr' (loc'.elim (fun q => .inl (Option.some.inj (show some g' = some g from q))) (fun q => .inr (Option.some.inj (show some g' = some u.heap.size from q))))
abbrev oC0 : Oper := { dst := some 3, op := Go.Op.fieldAddr 26 (Go.Operand.tmp 1) 0, type := 0, pos := "l14_disk.go:64", after := #[], guard := none }
abbrev oC1 : Oper := { dst := some 4, op := Go.Op.load 3 (Go.Operand.tmp 3), type := 3, pos := "l14_disk.go:64", after := #[{ on := 0, ground := Go.Ground.data }], guard := none }
abbrev oC2 : Oper := { dst := some 5, op := Go.Op.buildSlice 24 0 #[], type := 24, pos := "l14_disk.go:64", after := #[], guard := none }
abbrev oC3 : Oper := { dst := some 6, op := Go.Op.fieldAddr 26 (Go.Operand.tmp 1) 1, type := 0, pos := "l14_disk.go:64", after := #[], guard := none }
abbrev oC4 : Oper := { dst := some 7, op := Go.Op.load 24 (Go.Operand.tmp 6), type := 24, pos := "l14_disk.go:64", after := #[{ on := 3, ground := Go.Ground.data }], guard := none }
abbrev oC5 : Oper := { dst := some 8, op := Go.Op.call { callee := Go.Callee.builtin Go.Builtin.append, args := #[Go.Operand.tmp 5, Go.Operand.tmp 7], argTypes := #[24, 24] }, type := 24, pos := "l14_disk.go:64", after := #[{ on := 2, ground := Go.Ground.data }, { on := 4, ground := Go.Ground.data }], guard := none }
abbrev oC6 : Oper := { dst := some 9, op := Go.Op.build 26 #[(0, Go.Operand.tmp 4), (1, Go.Operand.tmp 8)], type := 26, pos := "l14_disk.go:64", after := #[{ on := 1, ground := Go.Ground.data }, { on := 5, ground := Go.Ground.data }], guard := none }
abbrev oC7 : Oper := { dst := none, op := Go.Op.store 26 (Go.Operand.tmp 2) (Go.Operand.tmp 9), type := 0, pos := "l14_disk.go:64", after := #[{ on := 6, ground := Go.Ground.data }, { on := 5, ground := Go.Ground.chain }, { on := 0, ground := Go.Ground.phase }, { on := 1, ground := Go.Ground.phase }, { on := 2, ground := Go.Ground.phase }, { on := 3, ground := Go.Ground.phase }, { on := 4, ground := Go.Ground.phase }, { on := 5, ground := Go.Ground.phase }, { on := 6, ground := Go.Ground.phase }], guard := none }
set_option maxRecDepth 100000 in
set_option maxHeartbeats 4000000 in
theorem sCopy (w : World) (x : Dx) (hr : RdD w x) :
    Calls Try.prog 35 #[.agg #[.int .i64 x.room, .slice x.a x.ps.length x.c]] w fun e w' => ∃ y : Dx, y.room = x.room ∧ y.ps = x.ps ∧ e = .returned (.agg #[.int .i64 y.room, .slice y.a y.ps.length y.c]) ∧ OwD w' w.heap.size y ∧ Below w.heap.size w w' := by
  have F : ∀ W1, W1 = w.alloc (.cells #[.int .i64 x.room, .slice x.a x.ps.length x.c] 26) → ∀ W2, W2 = W1.alloc (.cells #[.int .i64 0, .slice none 0 0] 26) →
      Wd w W2 x ∧ Bc W2 w.heap.size (w.heap.size + 1) (.int .i64 0) (.slice none 0 0) ∧ W2.heap.size = w.heap.size + 2 := by
    intro W1 h1 W2 h2
    have s1 : W1.heap.size = w.heap.size + 1 := by rw [h1]; simp
    have s2 : W2.heap.size = w.heap.size + 2 := by rw [h2]; simp [s1]
    have d1 : Wd w W1 x := by rw [h1]; exact Wd.made hr _
    have b2 : Below W1.heap.size W1 W2 := by rw [h2]; exact one_more _ _
    have R1 : Bc W2 w.heap.size (w.heap.size + 1) (.int .i64 0) (.slice none 0 0) := by rw [h2]; exact Bc.made _ _ (by omega) s1.symm
    exact ⟨d1.step b2, R1, s2⟩
  have G0 := hide (F _ rfl _ rfl)
  have h20 := hr.n
  clear F hr
  go_enter Try.func35, Try.ntmps35
  go_wp2_with fail
  generalize (w.alloc (.cells #[.int .i64 x.room, .slice x.a x.ps.length x.c] 26)).alloc (.cells #[.int .i64 0, .slice none 0 0] 26) = W at *
  obtain ⟨WD, RB, s3⟩ := unhide G0
  have K0 := And.intro WD.c0 WD.c1
  have bL := one_more W.drew (.cells #[] 32)
  have WL := WD.drew.step bL
  have KB := And.intro WL.c0 WL.c1
  have RQ := hide (show x.ps.length = 0 ∨ ∃ vb, x.a = some ⟨vb, 0, none⟩ ∧ AtF (W.drew.alloc (.cells #[] 32)) vb x.ps from by
    by_cases q : x.ps.length = 0
    · exact .inl q
    · obtain ⟨g, e⟩ := WL.r.e q
      exact .inr ⟨g, e, (WL.r.r g e).2⟩)
  have LF := hide (show OwnF 32 (W.drew.alloc (.cells #[] 32)) w.heap.size (w.heap.size + 2) 0 0 [] from by
    have h := litF0 32 W.drew w.heap.size (show w.heap.size ≤ W.heap.size from by omega)
    rw [show W.drew.heap.size = w.heap.size + 2 from s3] at h
    exact h)
  have HWD := hide WD
  have HRB := hide RB
  clear G0 WD RB bL WL
  refine wp_region_held_drew (S := (fun w' => w'.cell? ⟨w.heap.size, 0, none⟩ = some (.int .i64 x.room) ∧ w'.cell? ⟨w.heap.size, 1, none⟩ = some (.slice x.a x.ps.length x.c))) (by kernel_rfl) K0 (fun hHeld => ?_)
  refine wpAnyH_take (i := 0) (oi := oC0) (v := .pointer (some ⟨w.heap.size, 0, none⟩)) rfl (by kernel_rfl) (by kernel_rfl) (by kernel_rfl) (fun _ _ _ h => h) (Or.inl ⟨by rfl, fun w hSw => ?_⟩) hHeld ?_
  · (try dsimp only at hSw)
    unfold oC0
    go_simp
  try simp only [oC0, Act.put, List.setIfInBounds_toArray, List.set_cons_zero, List.set_cons_succ]
  refine wpAnyH_take (i := 1) (oi := oC1) (v := .int .i64 x.room) rfl (by kernel_rfl) (by kernel_rfl) (by kernel_rfl) (fun _ _ _ h => h) (Or.inl ⟨by rfl, fun w hSw => ?_⟩) hHeld ?_
  · (try dsimp only at hSw)
    unfold oC1
    go_simp
  try simp only [oC1, Act.put, List.setIfInBounds_toArray, List.set_cons_zero, List.set_cons_succ]
  refine wpAnyH_take (i := 3) (oi := oC3) (v := .pointer (some ⟨w.heap.size, 1, none⟩)) rfl (by kernel_rfl) (by kernel_rfl) (by kernel_rfl) (fun _ _ _ h => h) (Or.inl ⟨by rfl, fun w hSw => ?_⟩) hHeld ?_
  · (try dsimp only at hSw)
    unfold oC3
    go_simp
  try simp only [oC3, Act.put, List.setIfInBounds_toArray, List.set_cons_zero, List.set_cons_succ]
  refine wpAnyH_take (i := 4) (oi := oC4) (v := .slice x.a x.ps.length x.c) rfl (by kernel_rfl) (by kernel_rfl) (by kernel_rfl) (fun _ _ _ h => h) (Or.inl ⟨by rfl, fun w hSw => ?_⟩) hHeld ?_
  · (try dsimp only at hSw)
    unfold oC4
    go_simp
  try simp only [oC4, Act.put, List.setIfInBounds_toArray, List.set_cons_zero, List.set_cons_succ]
  refine wpAnyH_ready (rs := [2]) (by kernel_rfl) (by simp) ?_
  refine AllReadyH.cons (o := oC2) rfl (fun K hK => ?_) AllReadyH.nil
  unfold oC2
  go_simp
  refine hK.out _ _ KB (fun hHeld => ?_)
  clear hK K
  try simp only [oC2, Act.put, List.setIfInBounds_toArray, List.set_cons_zero, List.set_cons_succ]
  refine wpAnyH_ready (rs := [5]) (by kernel_rfl) (by simp) ?_
  refine AllReadyH.cons (o := oC5) rfl (fun K hK => ?_) AllReadyH.nil
  refine step_many ((W.drew).alloc (.cells #[] 32)) (by rfl) _ _ (by rfl) w.heap.size (w.heap.size + 2) 0 0 [] x.ps x.a x.c (by rfl) (by rfl) (unhide LF) (unhide RQ) (by omega) h20 (Nat.le_trans (show w.heap.size ≤ W.drew.heap.size from by show w.heap.size ≤ W.heap.size; omega) (by simp)) ?_
  intro g9 c9 u9 o9 gr9 LOC
  simp at LOC
  have O9 := hide o9
  have G9 := hide gr9
  have K9 : u9.cell? ⟨w.heap.size, 0, none⟩ = some (.int .i64 x.room) ∧ u9.cell? ⟨w.heap.size, 1, none⟩ = some (.slice x.a x.ps.length x.c) := ⟨gr9.cell KB.1 (by simp), gr9.cell KB.2 (by simp)⟩
  have R9 := hide ((((show Bc W.drew w.heap.size (w.heap.size + 1) (.int .i64 0) (.slice none 0 0) from unhide HRB).below (one_more W.drew (.cells #[] 32)) (show w.heap.size + 1 < W.heap.size from by omega))).kept gr9 (by simp))
  have f0 := (unhide R9).free 0
  have f1 := (unhide R9).free 1
  have r0 := (unhide R9).c0
  have r1 := (unhide R9).c1
  have NB := hide (show g9 ≠ w.heap.size + 1 from fun e => by
    have h := World.ownsRow.lt o9 g9 rfl
    rcases LOC with q | q <;> omega)
  have s0 := (unhide R9).set0 (.int .i64 x.room)
  have s1 := bc_set1 s0.1 (.slice (some ⟨g9, 0, none⟩) x.ps.length c9)
  have ST := hide (grow_grow s0.2 s1.2)
  have gs9 := (unhide G9).size
  simp at gs9
  have KE : ((u9.setCell ⟨w.heap.size + 1, 0, none⟩ (.int .i64 x.room)).setCell ⟨w.heap.size + 1, 1, none⟩ (.slice (some ⟨g9, 0, none⟩) x.ps.length c9)).cell? ⟨w.heap.size, 0, none⟩ = some (.int .i64 x.room) ∧ ((u9.setCell ⟨w.heap.size + 1, 0, none⟩ (.int .i64 x.room)).setCell ⟨w.heap.size + 1, 1, none⟩ (.slice (some ⟨g9, 0, none⟩) x.ps.length c9)).cell? ⟨w.heap.size, 1, none⟩ = some (.slice x.a x.ps.length x.c) := ⟨(kcell (unhide ST) 0 (show w.heap.size < u9.heap.size from by omega) (by omega)).trans K9.1, (kcell (unhide ST) 1 (show w.heap.size < u9.heap.size from by omega) (by omega)).trans K9.2⟩
  clear o9 gr9 s0 s1
  refine hK.out _ _ K9 (fun hHeld => ?_)
  clear hK K
  try simp only [oC5, Act.put, List.setIfInBounds_toArray, List.set_cons_zero, List.set_cons_succ]
  refine wpAnyH_take (i := 6) (oi := oC6) (v := .agg #[.int .i64 x.room, .slice (some ⟨g9, 0, none⟩) (0 + x.ps.length) c9]) rfl (by kernel_rfl) (by kernel_rfl) (by kernel_rfl) (fun _ _ _ h => h) (Or.inl ⟨by rfl, fun w hSw => ?_⟩) hHeld ?_
  · (try dsimp only at hSw)
    unfold oC6
    go_simp
  try simp only [oC6, Act.put, List.setIfInBounds_toArray, List.set_cons_zero, List.set_cons_succ]
  refine wpAnyH_ready (rs := [7]) (by kernel_rfl) (by simp) ?_
  refine AllReadyH.cons (o := oC7) rfl (fun K hK => ?_) AllReadyH.nil
  unfold oC7
  go_simp
  refine hK.out _ _ KE (fun hHeld => ?_)
  clear hK K
  try simp only [oC7, Act.put, List.setIfInBounds_toArray, List.set_cons_zero, List.set_cons_succ]
  refine wpAnyH_done (by kernel_rfl) ?_ _
  clear KE K9 KB K0
  go_wp2
  refine bodyPost_ret (v := .agg #[.int .i64 x.room, .slice (some ⟨g9, 0, none⟩) x.ps.length c9]) (by simp [results, Try.results35, go_sem, r0, r1]) rfl ⟨⟨x.room, some ⟨g9, 0, none⟩, c9, x.ps⟩, rfl, rfl, rfl, ?_, ?_⟩
  · unfold OwD
    exact World.ownsRow.kept (by have h := unhide O9; simp only [List.nil_append, Nat.zero_add] at h; exact h) (unhide ST) (.inr (fun e => (unhide NB) (Option.some.inj (show some g9 = some (w.heap.size + 1) from e))))
  · exact grow_low (grow_low ((unhide HWD).b.drew.alloc (show w.heap.size ≤ W.heap.size from by omega) _) (unhide G9) ⟨by omega, by simp; omega⟩) (unhide ST) ⟨by omega, by have := (unhide G9).size; simp at this; omega⟩
