import Derived.Test.YtpjpckmfehfniaaGreatDoorZC21
import Derived.Test.YtpjpckmfehfniaaGreatDoorRH
namespace Go.Proofs.YtpjpckmfehfniaaGreatDoor
open Go.RowKit

def met (b : Nat) (f : Nat) : Value := .func (.func f) #[.pointer (some ⟨b, 0, none⟩)] #[]
set_option maxHeartbeats 2000000 in
set_option maxRecDepth 100000 in
theorem c132 (b : Nat) (w : World) :
    Calls Tryz.prog 132 #[.pointer (some ⟨b, 0, none⟩)] w fun e w' => e = .returned (.agg #[.nilFunc, met b 154, met b 155, met b 156, met b 157, met b 158, met b 159, met b 160, met b 161, met b 162, met b 163, met b 164]) ∧ Below w.heap.size w w' := by
  have hsn : ∀ (w : World) (a : Addr) (m : Mode), (store a .nilFunc m).run Tryz.prog w = stored Tryz.prog w a .nilFunc m := fun w a m => run_store _ _ _ _ _ rfl
  have hsf : ∀ (w : World) (a : Addr) (f : Fn) (x y : Array Value) (m : Mode), (store a (.func f x y) m).run Tryz.prog w = stored Tryz.prog w a (.func f x y) m := fun w a f x y m => run_store _ _ _ _ _ rfl
  go_enter Tryz.func132, Tryz.ntmps132
  go_wp2
  refine bodyPost_ret (v := .agg #[.nilFunc, met b 154, met b 155, met b 156, met b 157, met b 158, met b 159, met b 160, met b 161, met b 162, met b 163, met b 164]) (by simp [results, Tryz.results132, go_sem, met]) rfl ⟨rfl, (Below.refl _ _).alloc (Nat.le_refl _) _⟩
end Go.Proofs.YtpjpckmfehfniaaGreatDoor
namespace Go.Proofs.YtpjpckmfehfniaaGreatDoor
open Go.RowKit

theorem cst_fold_no {b : UInt8} {l : List UInt8} (h : b ∉ l) (P : List (List UInt8)) (q : List UInt8) : l.foldl (cst b) (P, q) = (P, q ++ l) := by
  induction l generalizing q with
  | nil => simp
  | cons c l ih =>
    have hc : c ≠ b := fun e => h (by simp [e])
    rw [List.foldl_cons]
    have : cst b (P, q) c = (P, q ++ [c]) := by unfold cst; rw [if_neg hc]
    rw [this, ih (fun hm => h (List.mem_cons_of_mem _ hm)), List.append_assoc]; rfl
theorem cst_fold_pre (b : UInt8) (l : List UInt8) (P Q : List (List UInt8)) (q : List UInt8) : l.foldl (cst b) (P ++ Q, q) = (P ++ (l.foldl (cst b) (Q, q)).1, (l.foldl (cst b) (Q, q)).2) := by
  induction l generalizing Q q with
  | nil => rfl
  | cons c l ih =>
    rw [List.foldl_cons, List.foldl_cons]
    by_cases hc : c = b
    · have e1 : cst b (P ++ Q, q) c = (P ++ (Q ++ [q]), []) := by unfold cst; rw [if_pos hc, List.append_assoc]
      have e2 : cst b (Q, q) c = (Q ++ [q], []) := by unfold cst; rw [if_pos hc]
      rw [e1, e2, ih]
    · have e1 : cst b (P ++ Q, q) c = (P ++ Q, q ++ [c]) := by unfold cst; rw [if_neg hc]
      have e2 : cst b (Q, q) c = (Q, q ++ [c]) := by unfold cst; rw [if_neg hc]
      rw [e1, e2, ih]
theorem cut_no {b : UInt8} {l : List UInt8} (h : b ∉ l) : cutS b l = [l] := by
  unfold cutS cstate
  rw [cst_fold_no h]; rfl
theorem cut_hit {b : UInt8} {a r : List UInt8} (h : b ∉ a) : cutS b (a ++ b :: r) = a :: cutS b r := by
  unfold cutS cstate
  rw [List.foldl_append, cst_fold_no h, List.foldl_cons]
  have e : cst b ([], [] ++ a) b = ([a] ++ [], []) := by unfold cst; rw [if_pos rfl]; simp
  rw [e, cst_fold_pre]
  simp
theorem idx_10 (l : List UInt8) : (Lib.index l [10] = -1 ∧ (10 : UInt8) ∉ l) ∨ (∃ i : Nat, Lib.index l [10] = i ∧ i < l.length ∧ l = l.take i ++ 10 :: l.drop (i + 1) ∧ (10 : UInt8) ∉ l.take i) := by
  rw [Lib.index_one]
  have hge := Lib.indexByte_ge l 10
  by_cases h : Lib.indexByte l 10 = -1
  · refine .inl ⟨h, fun hm => ?_⟩
    obtain ⟨k, hk, e⟩ := List.getElem_of_mem hm
    exact Lib.indexByte_none h k (by rw [List.getElem?_eq_getElem hk, e])
  · obtain ⟨o, ho⟩ : ∃ o : Nat, Lib.indexByte l 10 = o := ⟨(Lib.indexByte l 10).toNat, by omega⟩
    obtain ⟨h1, h2⟩ := Lib.indexByte_some ho
    have hl : o < l.length := by
      rcases Nat.lt_or_ge o l.length with h | h
      · exact h
      · rw [List.getElem?_eq_none h] at h1; cases h1
    refine .inr ⟨o, ho, hl, ?_, fun hm => ?_⟩
    · have hx : l[o] = 10 := by rw [List.getElem?_eq_getElem hl] at h1; exact Option.some.inj h1
      conv => lhs; rw [← List.take_append_drop o l, List.drop_eq_getElem_cons hl, hx]
    · obtain ⟨k, hk, e⟩ := List.getElem_of_mem hm
      rw [List.length_take] at hk
      rw [List.getElem_take] at e
      exact h2 k (by omega) (by rw [List.getElem?_eq_getElem (by omega), e])
theorem split_10 (f : Nat) : ∀ l : List UInt8, l.length < f → Lib.splitK [10] 0 (Lib.countFrom [10] f l) l = cutS 10 l ∧ (cutS 10 l).length = Lib.countFrom [10] f l + 1 := by
  induction f with
  | zero => intro l h; omega
  | succ f ih =>
    intro l h
    rcases idx_10 l with ⟨hi, hn⟩ | ⟨i, hi, hl, he, hn⟩
    · have hc : Lib.countFrom [10] (f + 1) l = 0 := by rw [Lib.countFrom, hi]; rfl
      rw [hc, cut_no hn]
      exact ⟨rfl, rfl⟩
    · have hne : ¬ ((i : Int) == -1) = true := fun e => by have := beq_iff_eq.1 e; omega
      obtain ⟨h1, h2⟩ := ih (l.drop (i + 1)) (by rw [List.length_drop]; omega)
      have hc : Lib.countFrom [10] (f + 1) l = Lib.countFrom [10] f (l.drop (i + 1)) + 1 := by
        rw [Lib.countFrom, hi, if_neg hne, Nat.add_comm]; rfl
      have hcut : cutS 10 l = l.take i :: cutS 10 (l.drop (i + 1)) := by
        conv => lhs; rw [he]
        exact cut_hit hn
      rw [hc, hcut]
      refine ⟨?_, by rw [List.length_cons, h2]⟩
      rw [Lib.splitK, hi, if_neg hne, ← h1]
      rfl
theorem c187 (s : ByteArray) (w : World) (hs : s.size ≤ 1048700) (hm : MaxAt w) :
    Calls Tryz.prog 187 #[.string s, .string ⟨#[10]⟩] w fun e w' => (e = .returned (.slice (some ⟨w.heap.size, 0, none⟩) (cutS 10 s.data.toList).length (cutS 10 s.data.toList).length) ∧ LinesAt w' w.heap.size (cutS 10 s.data.toList)) ∧ Below w.heap.size w w' := by
  obtain ⟨_, m, hm⟩ := hm
  obtain ⟨h1, h2⟩ := split_10 (s.data.toList.length + 1) s.data.toList (by omega)
  have hd : Lib.splitB ⟨#[10]⟩ 0 (Lib.countB s ⟨#[10]⟩) s = (cutS 10 s.data.toList).map ofL := toL_inj ((Lib.splitB_data ⟨#[10]⟩ 0 (Lib.countB s ⟨#[10]⟩) s).trans h1)
  have hc : Lib.countB s ⟨#[10]⟩ + 1 = (cutS 10 s.data.toList).length := h2.symm
  refine (Tryz.strings_Split s ⟨#[10]⟩ m w (by omega) hm (by decide)).mono ?_
  rintro e w' ⟨rfl, rfl⟩
  rw [hd, hc]
  refine ⟨⟨rfl, by simp, fun i hi => ?_⟩, (Below.refl _ _).alloc (Nat.le_refl _) _⟩
  simp [hi]
end Go.Proofs.YtpjpckmfehfniaaGreatDoor
