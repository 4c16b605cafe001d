/- The laws' own texts that are marks, and marks on lists of files. -/
import Derived.Test.YtnjhgkclcnfooabHelpF14
import Derived.Laws.BytesArg
import Derived.Laws.Concat
namespace Go.Proofs.Ytnjhgkclcnfooab.MarkF14
open Go.ChangeShapes Go.WideShapes Go.ChangeAt Go.RowKit Fil14
set_option linter.unusedVariables false
set_option linter.unusedSimpArgs false

/-- The digits of a number ahead of a text. -/
def dg (k : Nat) (s : ByteArray) : ByteArray := if 0 < k then dg (k / 10) (strOfNums [48 + (k : Int) % 10] ++ s) else s
termination_by k
decreasing_by omega
/-- The text that marks. -/
def mt (k : Int) : ByteArray := ⟨#[109]⟩ ++ dg k.toNat ⟨#[]⟩
theorem dg_more {k : Nat} {s : ByteArray} (h : 0 < k) : dg k s = dg (k / 10) (strOfNums [48 + (k : Int) % 10] ++ s) := by rw [dg, if_pos h]
theorem dg_last {k : Nat} {s : ByteArray} (h : ¬ 0 < k) : dg k s = s := by rw [dg, if_neg h]

set_option maxRecDepth 100000 in
theorem markT (w : World) (k0 : Int) (h0 : 0 < k0) (h1 : k0 ≤ 100000000) :
    Calls Try.prog 37 #[.int .i64 k0] w fun e w' => e = .returned (.string (mt k0)) ∧ Below w.heap.size w w' := by
  obtain ⟨r, hr⟩ : ∃ r, Hid (mt k0 = r) := ⟨_, rfl⟩
  rw [unhide hr]
  have S0 := hide (show (⟨#[109]⟩ : ByteArray) ++ dg k0.toNat ⟨#[]⟩ = r from unhide hr)
  go_enter Try.func37, Try.ntmps37
  go_wp2
  go_loopw [0, 3] (fun a o wr => ∃ (k : Int) (s : ByteArray), a = .int .i64 k ∧ o = .string s ∧ 0 ≤ k ∧ k ≤ 100000000 ∧ Hid ((⟨#[109]⟩ : ByteArray) ++ dg k.toNat s = r) ∧ Hid (s.size + k.toNat ≤ 100000000) ∧ Hid (Below w.heap.size w wr)) (fun a _ _ => (intOf a).toNat)
  case atStart => exact ⟨k0, ⟨#[]⟩, rfl, rfl, by omega, h1, S0, hide (by have : (⟨#[]⟩ : ByteArray).size = 0 := rfl; omega), hide (Below.refl _ _)⟩
  case round =>
    clear S0 h0 h1
    obtain ⟨k, s, rfl, rfl, k1, k2, HD, HZ, HB⟩ := hrel
    have hz := unhide HZ
    by_cases t : 0 < k
    · have ND := hide (show (⟨#[109]⟩ : ByteArray) ++ dg (k / 10).toNat (strOfNums [48 + k % 10] ++ s) = r from by
        rw [← unhide HD, dg_more (k := k.toNat) (by omega), show ((k.toNat : Nat) : Int) = k by omega, show k.toNat / 10 = (k / 10).toNat by omega])
      have CV := run_convert_bytes_arg (P := Try.prog) (wr.alloc (.cells #[.int .u8 (48 + k % 10)] 5)) 62 5 Try.underlying62 Try.underlying5 wr.heap.size 0 1 1 [48 + k % 10] rfl (fun i hi => by
        have : i = 0 := by omega
        subst this
        simp) 9 Try.underlying9
      have cz := strOfNums_size [48 + k % 10]
      have E := hide (show wrap64 (k.tdiv 10) = k / 10 from by rw [Int.tdiv_eq_ediv_of_nonneg k1, wrap64]; omega)
      have B1 := hide ((unhide HB).alloc (unhide HB).size (.cells #[.int .u8 (48 + k % 10)] 5))
      have KK := hide (And.intro k1 k2)
      have cz1 : (strOfNums [48 + k % 10]).size = 1 := cz
      obtain ⟨c, hc⟩ : ∃ c, Hid (strOfNums [48 + k % 10] = c) := ⟨_, rfl⟩
      rw [unhide hc] at CV ND cz1
      have sz : ¬ (c.size + s.size > 9223372036854775807) := by omega
      have CZ := hide cz1
      clear cz cz1 hc HD
      go_wp2
      go_roundw
      case rel =>
        have kk := unhide KK
        exact ⟨k / 10, c ++ s, by first | rfl | (congr 1; exact unhide E), rfl, by omega, by omega, ND, hide (by have := unhide CZ; rw [ByteArray.size_append]; omega), B1⟩
      case measure =>
        have kk := unhide KK
        have e := unhide E
        simp [intOf]
        omega
    · have e : k = 0 := by omega
      subst e
      have D := unhide HD
      rw [dg_last (by simp)] at D
      have HD2 := hide D
      have sz : ¬ ((⟨#[109]⟩ : ByteArray).size + s.size > 9223372036854775807) := by have : (⟨#[109]⟩ : ByteArray).size = 1 := rfl; omega
      clear D HD
      go_wp2
      go_ret
      exact ⟨by rw [← unhide HD2]; rfl, unhide HB⟩

end Go.Proofs.Ytnjhgkclcnfooab.MarkF14
