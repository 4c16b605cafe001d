/- Disks: what is read behind a crash, a sync, an append, a cut, a move and a drop. -/
import Derived.Test.YtejbbhjhinkcdaaOkk14
namespace Go.Proofs.Ytejbbhjhinkcdaa.PureD14
open Fil14 (TF elF flatF)
open DiskH14 (sumZ)
open SOk14 (OkD okN)
open SDk14 (findF)
open SRd14 (readD atD bytesAt)
open SPut14 (putF)
open SLess14 (lessN)
open SSync14 (syncD)
open SAppend14 (appF appendD)
open SCut14 (cutD)
open SMove14 (moveD)
open SDrop14 (dropD)
open Pure14 Ok14
set_option linter.unusedVariables false
set_option linter.unusedSimpArgs false
theorem read_is {room : Int} {ps : List TF} (h : OkD room ps) {f : TF} (hf : f ∈ ps) : readD room ps f.1 = (f.2.1 ++ f.2.2, true) := by
  obtain ⟨k, e, l, hk⟩ := find_yes (asc_of h).1 hf
  unfold readD
  rw [if_pos ⟨h, by rw [e]; omega⟩, e, Int.toNat_natCast]
  unfold bytesAt
  rw [hk]
theorem read_no {room : Int} {ps : List TF} {nm : Int} (h : ∀ p ∈ ps, p.1 ≠ nm) : readD room ps nm = (ByteArray.empty, false) := by
  unfold readD
  rw [if_neg (by rw [find_no h]; omega)]
theorem at_yes {room : Int} {ps : List TF} (h : OkD room ps) {f : TF} (hf : f ∈ ps) : ∃ k : Nat, atD room ps f.1 = ((k : Int), 0) ∧ k < ps.length ∧ elF ps k = f := by
  obtain ⟨k, e, l, hk⟩ := find_yes (asc_of h).1 hf
  refine ⟨k, ?_, l, hk⟩
  unfold atD
  rw [if_pos ⟨h, ok_named.2 ((asc_of h).2 f hf)⟩, e, if_neg (by omega)]
theorem cat_begin (s t : ByteArray) (j : Nat) (hj : j ≤ t.size) : s.size ≤ (s ++ t.extract 0 j).size ∧ (s ++ t.extract 0 j).size ≤ (s ++ t).size ∧ (s ++ t).extract 0 (s ++ t.extract 0 j).size = s ++ t.extract 0 j := by
  have e1 : (s ++ t.extract 0 j).size = s.size + j := by rw [ByteArray.size_append, ByteArray.size_extract]; omega
  refine ⟨by omega, by rw [e1, ByteArray.size_append]; omega, ?_⟩
  rw [e1]
  apply ByteArray.ext
  simp only [ByteArray.data_extract, ByteArray.data_append]
  rw [Array.extract_append]
  have : s.data.size = s.size := rfl
  congr 1
  · rw [Array.extract_eq_self_of_le (by omega)]
  · rw [this]; congr 1 <;> omega
/-- What was there of a name, its text appended. -/
theorem append_read {room : Int} {ps : List TF} {nm : Int} {s : ByteArray} (h : OkD room ps) (hn : okN nm = true) (hs : (s.size : Int) ≤ room - sumZ ps) : readD room (putF ps (appF ps nm s)) nm = ((readD room ps nm).1 ++ s, true) ∧ appF ps nm s ∈ putF ps (appF ps nm s) := by
  have ok := ok_append h hn hs
  have hm : appF ps nm s ∈ putF ps (appF ps nm s) := (put_mem (asc_of h).1).2 (.inl rfl)
  have := read_is ok hm
  rw [app_name] at this
  refine ⟨?_, hm⟩
  rw [this]
  unfold readD appF
  by_cases q : 0 ≤ findF ps nm
  · rw [if_pos q, if_pos ⟨h, q⟩]
    unfold bytesAt
    rw [ByteArray.append_assoc]
  · rw [if_neg q, if_neg (fun z => q z.2)]
    rfl
theorem cut_back (s t : ByteArray) : (s ++ t).extract 0 s.size = s := by
  have := (cat_begin s t 0 (by omega)).2.2
  have e : t.extract 0 0 = ByteArray.empty := by apply ByteArray.ext; simp
  simpa [e] using this
theorem cut_read {room : Int} {ps : List TF} {s t : ByteArray} (h : OkD room ps) {f : TF} (hf : f ∈ ps) (hb : f.2.1 ++ f.2.2 = s ++ t) : ∃ qs, cutD room ps f.1 s.size = ((room, qs), 0) ∧ OkD room qs ∧ readD room qs f.1 = (s, true) := by
  obtain ⟨k, e, l, hk⟩ := at_yes h hf
  have q : (atD room ps f.1).2 = 0 := by rw [e]
  have eb : bytesAt ps (atD room ps f.1).1.toNat = s ++ t := by rw [e]; show bytesAt ps (Int.toNat (k : Int)) = _; rw [Int.toNat_natCast]; unfold bytesAt; rw [hk, hb]
  have ok := ok_cut (n := (s.size : Int)) q
  refine ⟨_, by unfold cutD; rw [if_pos q, if_pos ⟨by omega, by rw [eb, ByteArray.size_append]; omega⟩], ok, ?_⟩
  have hm := (put_mem (p := (f.1, (bytesAt ps (atD room ps f.1).1.toNat).extract 0 (Int.toNat (s.size : Int)), ByteArray.empty)) (f := (f.1, (bytesAt ps (atD room ps f.1).1.toNat).extract 0 (Int.toNat (s.size : Int)), ByteArray.empty)) (asc_of h).1).2 (.inl rfl)
  have := read_is ok hm
  rw [this, eb, Int.toNat_natCast, cut_back]
  simp
theorem move_read {room : Int} {ps : List TF} {to : Int} (h : OkD room ps) {f : TF} (hf : f ∈ ps) (ht : okN to = true) (hne : f.1 ≠ to) : ∃ qs, moveD room ps f.1 to = ((room, qs), 0) ∧ OkD room qs ∧ (to, f.2.1, f.2.2) ∈ qs ∧ readD room qs to = (f.2.1 ++ f.2.2, true) ∧ readD room qs f.1 = (ByteArray.empty, false) := by
  obtain ⟨k, e, l, hk⟩ := at_yes h hf
  have q : (atD room ps f.1).2 = 0 := by rw [e]
  have ok := ok_move q ht
  have ek : (atD room ps f.1).1 = (k : Int) := by rw [e]
  have al := less_asc (asc_of h).1 l
  refine ⟨_, by unfold moveD; rw [if_pos ⟨ht, hne⟩, if_pos q], ok, ?_⟩
  rw [ek] at ok ⊢
  rw [Int.toNat_natCast, hk] at ok ⊢
  have hm := (put_mem (p := (to, f.2.1, f.2.2)) (f := (to, f.2.1, f.2.2)) al).2 (.inl rfl)
  refine ⟨hm, read_is ok hm, read_no fun p hp => ?_⟩
  rcases (put_mem al).1 hp with rfl | ⟨hp, _⟩
  · exact fun z => hne z.symm
  · have := ((less_mem (asc_of h).1 l).1 hp).2
    rwa [hk] at this
theorem drop_read {room : Int} {ps : List TF} (h : OkD room ps) {f : TF} (hf : f ∈ ps) : ∃ qs, dropD room ps f.1 = ((room, qs), 0) ∧ OkD room qs ∧ qs.length = ps.length - 1 ∧ readD room qs f.1 = (ByteArray.empty, false) := by
  obtain ⟨k, e, l, hk⟩ := at_yes h hf
  have q : (atD room ps f.1).2 = 0 := by rw [e]
  have ek : (atD room ps f.1).1 = (k : Int) := by rw [e]
  refine ⟨_, by unfold dropD; rw [if_pos q], ?_⟩
  rw [ek]
  refine ⟨(ok_less h l).1, less_len' l, read_no fun p hp => ?_⟩
  have := ((less_mem (asc_of h).1 l).1 hp).2
  rwa [hk] at this
end Go.Proofs.Ytejbbhjhinkcdaa.PureD14
