import Derived.Test.YtignmnbgedmfbaaDoorDA
import Derived.Test.YtignmnbgedmfbaaDoorT8
namespace Go.Proofs.YtignmnbgedmfbaaDoor
open Go.RowKit

def RdTo (w : World) (q P : Nat) : Prop := ∃ p, p ≤ P ∧ RdAt w q p
theorem RdTo.lt {w : World} {q P : Nat} (h : RdTo w q P) : q < w.heap.size := by obtain ⟨p, _, h⟩ := h; exact h.lt
theorem RdTo.mono {w : World} {q P P' : Nat} (h : RdTo w q P) (hp : P ≤ P') : RdTo w q P' := by obtain ⟨p, h1, h2⟩ := h; exact ⟨p, by omega, h2⟩
theorem RdTo.later {w w' : World} {q P : Nat} (h : RdTo w q P) (hb : Below w.heap.size w w') : RdTo w' q P := by obtain ⟨p, h1, h2⟩ := h; exact ⟨p, h1, h2.later hb h2.lt⟩
theorem OnlyAt.but {q : Nat} {w w' : World} (h : OnlyAt q w w') : But q w w' := ⟨h.os, h.tape, h.output, by rw [h.size]; exact Nat.le_refl _, fun k _ hne => h.block k hne⟩
theorem But.later {q : Nat} {w w' u : World} (h : But q w w') (hb : Below w'.heap.size w' u) : But q w u := h.trans (But.of_below hb)
theorem pickT (w : World) (q P : Nat) (n : Int) (hn1 : 1 ≤ n) (hn2 : n ≤ 1000000) (hp : P ≤ 1000000) (hr : RdTo w q P) :
    Calls Tryd.prog 46 #[.pointer (some ⟨q, 0, none⟩), .int .i64 n] w fun e w' => (∃ r : Int, e = .returned (.int .i64 r) ∧ 0 ≤ r ∧ r < n) ∧ RdTo w' q (P + 1) ∧ OnlyAt q w w' := by
  obtain ⟨p, h1, h2⟩ := hr
  refine (pick w q p n hn1 hn2 (by omega) h2).mono ?_
  rintro e w' ⟨ha, hb, hc⟩
  exact ⟨ha, ⟨p + 1, by omega, hb⟩, hc⟩

set_option maxHeartbeats 400000 in
theorem c49 (s : ByteArray) (n : Nat) (w : World) (hs : s.size ≤ 4) (hn : n ≤ 1000) :
    Calls Tryd.prog 49 #[.string s, .int .i64 n] w fun e w' => (∃ x : ByteArray, e = .returned (.string x) ∧ x.size ≤ 4000) ∧ w' = w := by
  have h0 : (⟨#[]⟩ : ByteArray).size + s.size * n ≤ 4000 := by
    have := Nat.mul_le_mul hs hn
    have e : (⟨#[]⟩ : ByteArray).size = 0 := rfl
    omega
  go_enter Tryd.func49, Tryd.ntmps49
  go_wp2_with fail
  go_loop [0, 1, 5] (fun a b c => ∃ (t : ByteArray) (m : Nat) (o : ByteArray), a = .string t ∧ b = .int .i64 m ∧ c = .string o ∧ Hid (o.size + t.size * m ≤ 4000) ∧ m ≤ 1000 ∧ o.size ≤ 4000 ∧ t.size ≤ 8000) (fun _ b _ => (intOf b).toNat)
  case atStart => exact ⟨s, n, ⟨#[]⟩, rfl, rfl, rfl, h0, hn, by decide, by omega⟩
  case round =>
    obtain ⟨t, m, o, rfl, rfl, rfl, hh, hm, ho, ht⟩ := hrel
    by_cases hz : m = 0
    · subst hz
      go_wp2
      go_ret
      exact ⟨⟨o, rfl, ho⟩, rfl⟩
    · have hpos : (0 : Int) < (m : Int) := by omega
      have ht4 : t.size ≤ 4000 := by
        have := Nat.le_mul_of_pos_right t.size (show 0 < m by omega)
        have := hh.out
        omega
      have hcat : t.size + t.size ≤ 8000 := by omega
      rcases Nat.mod_two_eq_zero_or_one m with h2 | h2
      · have h2' : (m : Int) % 2 = 0 := by omega
        have hk : Hid (o.size + (t ++ t).size * (m / 2) ≤ 4000) := by
          have e : (t ++ t).size * (m / 2) = t.size * m := by
            rw [ByteArray.size_append]
            obtain ⟨c, rfl⟩ : ∃ c, m = 2 * c := ⟨m / 2, by omega⟩
            rw [Nat.mul_div_cancel_left _ (by omega), ← Nat.two_mul, Nat.mul_comm 2 t.size, Nat.mul_assoc]
          show _ ≤ _
          rw [e]; exact hh.out
        go_wp2
        go_round
        case rel => exact ⟨t ++ t, m / 2, o, rfl, by go_num, rfl, hk, by omega, ho, by rw [ByteArray.size_append]; omega⟩
        case measure => simp [intOf]; omega
      · have h2' : (m : Int) % 2 = 1 := by omega
        have hk : Hid ((o ++ t).size + (t ++ t).size * (m / 2) ≤ 4000) := by
          have e : (o ++ t).size + (t ++ t).size * (m / 2) = o.size + t.size * m := by
            rw [ByteArray.size_append, ByteArray.size_append]
            obtain ⟨c, rfl⟩ : ∃ c, m = 2 * c + 1 := ⟨m / 2, by omega⟩
            rw [show (2 * c + 1) / 2 = c by omega, ← Nat.two_mul, Nat.mul_add, Nat.mul_one, ← Nat.mul_assoc, Nat.mul_comm t.size 2]
            omega
          show _ ≤ _
          rw [e]; exact hh.out
        have hot : (o ++ t).size ≤ 4000 := by have h := hk.out; have := Nat.zero_le ((t ++ t).size * (m / 2)); omega
        have hot' : o.size + t.size ≤ 4000 := by rw [ByteArray.size_append] at hot; exact hot
        go_wp2
        go_round
        case rel => exact ⟨t ++ t, m / 2, o ++ t, rfl, by go_num, rfl, hk, by omega, hot, by rw [ByteArray.size_append]; omega⟩
        case measure => simp [intOf]; omega
set_option maxHeartbeats 400000 in
theorem c77 (op : Int) (w : World) :
    Calls Tryd.prog 77 #[.int .i64 op] w fun e w' => e = .returned (.agg #[.int .i64 op, .string ⟨#[]⟩, .int .i64 0]) ∧ Below w.heap.size w w' := by
  go_enter Tryd.func77, Tryd.ntmps77
  go_wp2
  refine bodyPost_ret (v := .agg #[.int .i64 op, .string ⟨#[]⟩, .int .i64 0]) (by simp [results, Tryd.results77, go_sem]) rfl ⟨rfl, ?_⟩
  exact (Below.refl _ _).alloc (Nat.le_refl _) _
set_option maxHeartbeats 400000 in
theorem c89 (op : Int) (s : ByteArray) (w : World) :
    Calls Tryd.prog 89 #[.int .i64 op, .string s] w fun e w' => e = .returned (.agg #[.int .i64 op, .string s, .int .i64 0]) ∧ Below w.heap.size w w' := by
  go_enter Tryd.func89, Tryd.ntmps89
  go_wp2
  refine bodyPost_ret (v := .agg #[.int .i64 op, .string s, .int .i64 0]) (by simp [results, Tryd.results89, go_sem]) rfl ⟨rfl, ?_⟩
  exact (Below.refl _ _).alloc (Nat.le_refl _) _
set_option maxHeartbeats 1000000 in
set_option maxRecDepth 100000 in
theorem c48 (q P : Nat) (w : World) (hp : P ≤ 100000) (hr : RdTo w q P) :
    Calls Tryd.prog 48 #[.pointer (some ⟨q, 0, none⟩)] w fun e w' => (∃ x : ByteArray, e = .returned (.string x) ∧ x.size ≤ 20) ∧ RdTo w' q (P + 2) ∧ But q w w' := by
  have HR : Hid (RdTo w q P) := hr
  clear hr
  go_enter Tryd.func48, Tryd.ntmps48
  go_wp2_with fail
  refine (pickT w q P 13 (by omega) (by omega) (by omega) HR.out).mono ?_
  rintro e w1 ⟨⟨r, rfl, h0, h13⟩, h1, ho⟩
  have H1 : Hid (RdTo w1 q (P + 1)) := h1
  have HB1 : Hid (But q w w1) := ho.but
  clear h1 ho
  obtain rfl | rfl | rfl | rfl | rfl | rfl | rfl | rfl | rfl | rfl | rfl | rfl | rfl : r = 0 ∨ r = 1 ∨ r = 2 ∨ r = 3 ∨ r = 4 ∨ r = 5 ∨ r = 6 ∨ r = 7 ∨ r = 8 ∨ r = 9 ∨ r = 10 ∨ r = 11 ∨ r = 12 := by omega
  · clear h0 h13
    go_wp2
    go_ret
    exact ⟨⟨_, rfl, by decide⟩, H1.out.mono (by omega), HB1.out⟩
  · clear h0 h13
    go_wp2
    go_ret
    exact ⟨⟨_, rfl, by decide⟩, H1.out.mono (by omega), HB1.out⟩
  · clear h0 h13
    go_wp2_with fail
    refine (pickT w1 q (P + 1) 5 (by omega) (by omega) (by omega) H1.out).mono ?_
    rintro e w2 ⟨⟨r2, rfl, h20, h2n⟩, h2, ho2⟩
    have H2 : Hid (RdTo w2 q (P + 1 + 1)) := h2
    have HB2 : Hid (But q w w2) := HB1.out.trans ho2.but
    clear h2 ho2
    obtain ⟨m, rfl⟩ := Int.eq_ofNat_of_zero_le h20
    have hm : m < 100 := by omega
    have hdl : (ofL (Lib.decDigits m)).size ≤ 2 := by rw [ofL_size]; exact decLen m hm
    go_wp2_with fail
    refine (c27 m w2 hm).mono ?_
    rintro e w3 ⟨rfl, hb3⟩
    go_wp2
    go_ret
    exact ⟨⟨_, rfl, by rw [ByteArray.size_append]; have e1 : ByteArray.size ⟨#[120]⟩ = 1 := rfl; omega⟩, H2.out.later hb3, HB2.out.later hb3⟩
  · clear h0 h13
    have hA : Below w1.heap.size w1 (w1.alloc (.cells #[.string ⟨#[97]⟩, .string ⟨#[98]⟩, .string ⟨#[103, 111, 110, 101]⟩] 9)) := (Below.refl _ _).alloc (Nat.le_refl _) _
    have hq1 : q < w1.heap.size := H1.out.lt
    go_wp2_with fail
    refine (pickT (w1.alloc (.cells #[.string ⟨#[97]⟩, .string ⟨#[98]⟩, .string ⟨#[103, 111, 110, 101]⟩] 9)) q (P + 1) 3 (by omega) (by omega) (by omega) (H1.out.later hA)).mono ?_
    rintro e w2 ⟨⟨r2, rfl, h20, h2n⟩, h2, ho2⟩
    have H2 : Hid (RdTo w2 q (P + 1 + 1)) := h2
    have HB2 : Hid (But q w w2) := (HB1.out.later hA).trans ho2.but
    have d0 : w2.cell? ⟨w1.heap.size, 0, none⟩ = some (.string ⟨#[97]⟩) := by rw [ho2.cell (by simp; omega)]; simp
    have d1 : w2.cell? ⟨w1.heap.size, 1, none⟩ = some (.string ⟨#[98]⟩) := by rw [ho2.cell (by simp; omega)]; simp
    have d2 : w2.cell? ⟨w1.heap.size, 2, none⟩ = some (.string ⟨#[103, 111, 110, 101]⟩) := by rw [ho2.cell (by simp; omega)]; simp
    clear h2 ho2 hA
    obtain rfl | rfl | rfl : r2 = 0 ∨ r2 = 1 ∨ r2 = 2 := by omega
    all_goals
      go_wp2
      go_ret
      exact ⟨⟨_, rfl, by decide⟩, H2.out, HB2.out⟩
  · clear h0 h13
    go_wp2
    go_ret
    exact ⟨⟨_, rfl, by decide⟩, H1.out.mono (by omega), HB1.out⟩
  · clear h0 h13
    go_wp2_with fail
    refine (pickT w1 q (P + 1) 9 (by omega) (by omega) (by omega) H1.out).mono ?_
    rintro e w2 ⟨⟨r2, rfl, h20, h2n⟩, h2, ho2⟩
    have H2 : Hid (RdTo w2 q (P + 1 + 1)) := h2
    have HB2 : Hid (But q w w2) := HB1.out.trans ho2.but
    clear h2 ho2
    obtain ⟨m, rfl⟩ := Int.eq_ofNat_of_zero_le h20
    have hm : m < 100 := by omega
    have hdl : (ofL (Lib.decDigits m)).size ≤ 2 := by rw [ofL_size]; exact decLen m hm
    go_wp2_with fail
    refine (c27 m w2 hm).mono ?_
    rintro e w3 ⟨rfl, hb3⟩
    go_wp2
    go_ret
    exact ⟨⟨_, rfl, by rw [ByteArray.size_append]; have e1 : ByteArray.size ⟨#[118]⟩ = 1 := rfl; omega⟩, H2.out.later hb3, HB2.out.later hb3⟩
  · clear h0 h13
    go_wp2_with fail
    refine (pickT w1 q (P + 1) 9 (by omega) (by omega) (by omega) H1.out).mono ?_
    rintro e w2 ⟨⟨r2, rfl, h20, h2n⟩, h2, ho2⟩
    have H2 : Hid (RdTo w2 q (P + 1 + 1)) := h2
    have HB2 : Hid (But q w w2) := HB1.out.trans ho2.but
    clear h2 ho2
    obtain ⟨m, rfl⟩ := Int.eq_ofNat_of_zero_le h20
    have hm : m < 100 := by omega
    have hdl : (ofL (Lib.decDigits m)).size ≤ 2 := by rw [ofL_size]; exact decLen m hm
    go_wp2_with fail
    refine (c27 m w2 hm).mono ?_
    rintro e w3 ⟨rfl, hb3⟩
    go_wp2
    go_ret
    exact ⟨⟨_, rfl, by rw [ByteArray.size_append]; have e1 : ByteArray.size ⟨#[118]⟩ = 1 := rfl; omega⟩, H2.out.later hb3, HB2.out.later hb3⟩
  · clear h0 h13
    go_wp2_with fail
    refine (pickT w1 q (P + 1) 9 (by omega) (by omega) (by omega) H1.out).mono ?_
    rintro e w2 ⟨⟨r2, rfl, h20, h2n⟩, h2, ho2⟩
    have H2 : Hid (RdTo w2 q (P + 1 + 1)) := h2
    have HB2 : Hid (But q w w2) := HB1.out.trans ho2.but
    clear h2 ho2
    obtain ⟨m, rfl⟩ := Int.eq_ofNat_of_zero_le h20
    have hm : m < 100 := by omega
    have hdl : (ofL (Lib.decDigits m)).size ≤ 2 := by rw [ofL_size]; exact decLen m hm
    go_wp2_with fail
    refine (c27 m w2 hm).mono ?_
    rintro e w3 ⟨rfl, hb3⟩
    go_wp2
    go_ret
    exact ⟨⟨_, rfl, by rw [ByteArray.size_append]; have e1 : ByteArray.size ⟨#[118]⟩ = 1 := rfl; omega⟩, H2.out.later hb3, HB2.out.later hb3⟩
  · clear h0 h13
    go_wp2_with fail
    refine (pickT w1 q (P + 1) 9 (by omega) (by omega) (by omega) H1.out).mono ?_
    rintro e w2 ⟨⟨r2, rfl, h20, h2n⟩, h2, ho2⟩
    have H2 : Hid (RdTo w2 q (P + 1 + 1)) := h2
    have HB2 : Hid (But q w w2) := HB1.out.trans ho2.but
    clear h2 ho2
    obtain ⟨m, rfl⟩ := Int.eq_ofNat_of_zero_le h20
    have hm : m < 100 := by omega
    have hdl : (ofL (Lib.decDigits m)).size ≤ 2 := by rw [ofL_size]; exact decLen m hm
    go_wp2_with fail
    refine (c27 m w2 hm).mono ?_
    rintro e w3 ⟨rfl, hb3⟩
    go_wp2
    go_ret
    exact ⟨⟨_, rfl, by rw [ByteArray.size_append]; have e1 : ByteArray.size ⟨#[118]⟩ = 1 := rfl; omega⟩, H2.out.later hb3, HB2.out.later hb3⟩
  · clear h0 h13
    go_wp2
    go_ret
    exact ⟨⟨_, rfl, by decide⟩, H1.out.mono (by omega), HB1.out⟩
  · clear h0 h13
    go_wp2
    go_ret
    exact ⟨⟨_, rfl, by decide⟩, H1.out.mono (by omega), HB1.out⟩
  · clear h0 h13
    go_wp2
    go_ret
    exact ⟨⟨_, rfl, by decide⟩, H1.out.mono (by omega), HB1.out⟩
  · clear h0 h13
    go_wp2_with fail
    refine (pickT w1 q (P + 1) 9 (by omega) (by omega) (by omega) H1.out).mono ?_
    rintro e w2 ⟨⟨r2, rfl, h20, h2n⟩, h2, ho2⟩
    have H2 : Hid (RdTo w2 q (P + 1 + 1)) := h2
    have HB2 : Hid (But q w w2) := HB1.out.trans ho2.but
    clear h2 ho2
    obtain ⟨m, rfl⟩ := Int.eq_ofNat_of_zero_le h20
    have hm : m < 100 := by omega
    have hdl : (ofL (Lib.decDigits m)).size ≤ 2 := by rw [ofL_size]; exact decLen m hm
    go_wp2_with fail
    refine (c27 m w2 hm).mono ?_
    rintro e w3 ⟨rfl, hb3⟩
    go_wp2
    go_ret
    exact ⟨⟨_, rfl, by rw [ByteArray.size_append]; have e1 : ByteArray.size ⟨#[118]⟩ = 1 := rfl; omega⟩, H2.out.later hb3, HB2.out.later hb3⟩
end Go.Proofs.YtignmnbgedmfbaaDoor
