import Derived.Test.YtpjpckmfehfniaaGreatDoorH5
import Derived.Test.YtpjpckmfehfniaaGreatDoorH11
namespace Go.Proofs.YtpjpckmfehfniaaGreatDoor
open Go.RowKit
def msgL (m : M.G16) : List Value := [.int .i64 m.kd, .int .i64 m.to, .int .i64 m.fr, .int .i64 m.ep, .int .i64 m.ed, .string m.km.nm, .string m.km.tl, .string m.km.ar, .slice none 0 0, .int .i64 m.ct, .bool m.tn.over, .int .i64 m.tn.cd, .string m.tn.tx, .bool m.tn.has, .string m.tn.nm, .int .i64 m.tn.st]
theorem msgL_len (m : M.G16) : (msgL m).length = 16 := rfl
def msC (ms : List M.G16) : List Value := ms.flatMap msgL
theorem msC_len (ms : List M.G16) : (msC ms).length = ms.length * 16 := by
 induction ms with
 | nil => rfl
 | cons x r ih => unfold msC at *; simp only [List.flatMap_cons, List.length_append, List.length_cons, ih, msgL_len]; omega
theorem msC_get (ms : List M.G16) : ∀ i, i < ms.length → ∀ j v, (msgL (ms.getD i M.g16z))[j]? = some v → (msC ms)[i * 16 + j]? = some v := by
 induction ms with
 | nil => intro i h; simp at h
 | cons x r ih =>
   intro i hi j v hv
   cases i with
   | zero =>
     have hv' : (msgL x)[j]? = some v := hv
     show (msgL x ++ msC r)[0 * 16 + j]? = _
     have hj := (List.getElem?_eq_some_iff.1 hv').1
     rw [List.getElem?_append_left (by simpa using hj)]
     simpa using hv'
   | succ i =>
     have := ih i (by simpa using hi) j v hv
     show (msgL x ++ msC r)[(i + 1) * 16 + j]? = _
     rw [List.getElem?_append_right (by rw [msgL_len]; omega), msgL_len, ← this]
     congr 1
     omega
def MsAt (w : World) (a : Option Addr) (ms : List M.G16) : Prop := ms = [] ∨ ∃ b, a = some ⟨b, 0, none⟩ ∧ b < w.heap.size ∧ ∀ i, i < ms.length → ∀ j v, (msgL (ms.getD i M.g16z))[j]? = some v → w.cell? ⟨b, i * 16 + j, none⟩ = some v
theorem MsAt.below {w w' : World} {a : Option Addr} {ms : List M.G16} (h : MsAt w a ms) (hb : Below w.heap.size w w') : MsAt w' a ms := by
 rcases h with h | ⟨b, h1, h2, h3⟩
 · exact .inl h
 · exact .inr ⟨b, h1, Nat.lt_of_lt_of_le h2 hb.size, fun i hi j v hv => (hb.cell (p := ⟨b, i * 16 + j, none⟩) h2).trans (h3 i hi j v hv)⟩
def hereG (x : M.W19) : M.G16 := ⟨3, 0, x.no, 0, 0, ⟨⟨#[]⟩, ⟨#[]⟩, ⟨#[]⟩⟩, [], 0, ⟨false, 0, ⟨#[]⟩, false, ⟨#[]⟩, 0⟩⟩
def turnG (x : M.W19) (t : TN) : M.G16 := ⟨2, 0, x.no, x.of.ep, x.of.ed, ⟨x.of.km.nm, ⟨#[]⟩, ⟨#[]⟩⟩, [], x.of.ls.length, ⟨t.over, t.code, t.text, t.has, t.name, t.steps⟩⟩
theorem tick_ms {x : M.W19} {t : TN} {y : M.W19} {k : Nat} {C : List Value} (h : TickR x t y k C) : ∃ ms : List M.G16, k = ms.length ∧ C = msC ms ∧ ms.length ≤ 2 ∧ ∀ m ∈ ms, m.ls = [] := by
 rcases h with ⟨_, _, rfl, rfl⟩ | ⟨_, _, _, rfl, rfl⟩ | ⟨_, _, _, _, rfl, rfl⟩ | ⟨_, _, _, _, rfl, rfl⟩
 · exact ⟨[], rfl, rfl, by simp, by simp⟩
 · exact ⟨[], rfl, rfl, by simp, by simp⟩
 · exact ⟨[hereG x], rfl, rfl, by simp, by simp [hereG]⟩
 · exact ⟨[hereG x, turnG x t], rfl, rfl, by simp, by simp [hereG, turnG]⟩
end Go.Proofs.YtpjpckmfehfniaaGreatDoor
namespace Go.Proofs.YtpjpckmfehfniaaGreatDoor
open Go.RowKit
theorem c50z (m : M.G16) (w : World) : Calls Tryz.prog 50 #[.agg #[.int .i64 m.kd, .int .i64 m.to, .int .i64 m.fr, .int .i64 m.ep, .int .i64 m.ed, .string m.km.nm, .string m.km.tl, .string m.km.ar, .slice none 0 0, .int .i64 m.ct, .bool m.tn.over, .int .i64 m.tn.cd, .string m.tn.tx, .bool m.tn.has, .string m.tn.nm, .int .i64 m.tn.st], .agg #[.int .i64 m.kd, .int .i64 m.to, .int .i64 m.fr, .int .i64 m.ep, .int .i64 m.ed, .string m.km.nm, .string m.km.tl, .string m.km.ar, .slice none 0 0, .int .i64 m.ct, .bool m.tn.over, .int .i64 m.tn.cd, .string m.tn.tx, .bool m.tn.has, .string m.tn.nm, .int .i64 m.tn.st]] w fun e w' => e = .returned (.bool true) ∧ Below w.heap.size w w' :=
 M.c50 ⟨m.kd, m.to, m.fr, m.ep, m.ed, m.km, [], m.ct, m.tn⟩ none none 0 0 w (Nat.zero_le _) (.inl rfl) (.inl rfl)
theorem ms_some {w : World} {a : Option Addr} {ms : List M.G16} (h : MsAt w a ms) : ∃ b, (ms = [] ∨ (a = some ⟨b, 0, none⟩ ∧ b < w.heap.size ∧ ∀ i, i < ms.length → ∀ j v, (msgL (ms.getD i M.g16z))[j]? = some v → w.cell? ⟨b, i * 16 + j, none⟩ = some v)) := by
 rcases h with h | ⟨b, h⟩
 · exact ⟨0, .inl h⟩
 · exact ⟨b, .inr h⟩
set_option maxHeartbeats 8000000 in
set_option maxRecDepth 100000 in
theorem c19 (a a' : Option Addr) (cap cap' : Nat) (ms : List M.G16) (w : World) (hl : ms.length ≤ 1048576) (hat : MsAt w a ms) (hat' : MsAt w a' ms) :
 Calls Tryz.prog 19 #[.slice a ms.length cap, .slice a' ms.length cap'] w fun e w' => e = .returned (.bool true) ∧ Below w.heap.size w w' := by
 obtain ⟨b, hc⟩ := ms_some hat
 have HC : Hid (ms = [] ∨ (a = some ⟨b, 0, none⟩ ∧ b < w.heap.size ∧ ∀ i, i < ms.length → ∀ j v, (msgL (ms.getD i M.g16z))[j]? = some v → w.cell? ⟨b, i * 16 + j, none⟩ = some v)) := hc
 obtain ⟨b', hc'⟩ := ms_some hat'
 have HC' : Hid (ms = [] ∨ (a' = some ⟨b', 0, none⟩ ∧ b' < w.heap.size ∧ ∀ i, i < ms.length → ∀ j v, (msgL (ms.getD i M.g16z))[j]? = some v → w.cell? ⟨b', i * 16 + j, none⟩ = some v)) := hc'
 clear hc hat hc' hat'
 go_enter Tryz.func19, Tryz.ntmps19
 go_wp2_with fail
 go_loopw [5] (fun i wr => ∃ (k : Nat), k ≤ ms.length ∧ i = .int .i64 k ∧ Below w.heap.size w wr) (fun i _ => ms.length - (intOf i).toNat)
 case atStart => exact ⟨0, Nat.zero_le _, rfl, Below.refl _ _⟩
 case round =>
  obtain ⟨k, hk, rfl, hb⟩ := hrel
  by_cases hlt : k < ms.length
  · rcases HC.out with hss | ⟨ha, hbw, hcell⟩
    · rw [hss] at hlt; exact absurd hlt (Nat.not_lt_zero _)
    rcases HC'.out with hss | ⟨ha', hbw', hcell'⟩
    · rw [hss] at hlt; exact absurd hlt (Nat.not_lt_zero _)
    subst ha
    subst ha'
    have g0 := (hb.cell (p := ⟨b, k * 16 + 0, none⟩) hbw).trans (hcell k hlt 0 _ rfl)
    have h0' := (hb.cell (p := ⟨b', k * 16 + 0, none⟩) hbw').trans (hcell' k hlt 0 _ rfl)
    have g1 := (hb.cell (p := ⟨b, k * 16 + 1, none⟩) hbw).trans (hcell k hlt 1 _ rfl)
    have h1' := (hb.cell (p := ⟨b', k * 16 + 1, none⟩) hbw').trans (hcell' k hlt 1 _ rfl)
    have g2 := (hb.cell (p := ⟨b, k * 16 + 2, none⟩) hbw).trans (hcell k hlt 2 _ rfl)
    have h2' := (hb.cell (p := ⟨b', k * 16 + 2, none⟩) hbw').trans (hcell' k hlt 2 _ rfl)
    have g3 := (hb.cell (p := ⟨b, k * 16 + 3, none⟩) hbw).trans (hcell k hlt 3 _ rfl)
    have h3' := (hb.cell (p := ⟨b', k * 16 + 3, none⟩) hbw').trans (hcell' k hlt 3 _ rfl)
    have g4 := (hb.cell (p := ⟨b, k * 16 + 4, none⟩) hbw).trans (hcell k hlt 4 _ rfl)
    have h4' := (hb.cell (p := ⟨b', k * 16 + 4, none⟩) hbw').trans (hcell' k hlt 4 _ rfl)
    have g5 := (hb.cell (p := ⟨b, k * 16 + 5, none⟩) hbw).trans (hcell k hlt 5 _ rfl)
    have h5' := (hb.cell (p := ⟨b', k * 16 + 5, none⟩) hbw').trans (hcell' k hlt 5 _ rfl)
    have g6 := (hb.cell (p := ⟨b, k * 16 + 6, none⟩) hbw).trans (hcell k hlt 6 _ rfl)
    have h6' := (hb.cell (p := ⟨b', k * 16 + 6, none⟩) hbw').trans (hcell' k hlt 6 _ rfl)
    have g7 := (hb.cell (p := ⟨b, k * 16 + 7, none⟩) hbw).trans (hcell k hlt 7 _ rfl)
    have h7' := (hb.cell (p := ⟨b', k * 16 + 7, none⟩) hbw').trans (hcell' k hlt 7 _ rfl)
    have g8 := (hb.cell (p := ⟨b, k * 16 + 8, none⟩) hbw).trans (hcell k hlt 8 _ rfl)
    have h8' := (hb.cell (p := ⟨b', k * 16 + 8, none⟩) hbw').trans (hcell' k hlt 8 _ rfl)
    have g9 := (hb.cell (p := ⟨b, k * 16 + 9, none⟩) hbw).trans (hcell k hlt 9 _ rfl)
    have h9' := (hb.cell (p := ⟨b', k * 16 + 9, none⟩) hbw').trans (hcell' k hlt 9 _ rfl)
    have g10 := (hb.cell (p := ⟨b, k * 16 + 10, none⟩) hbw).trans (hcell k hlt 10 _ rfl)
    have h10' := (hb.cell (p := ⟨b', k * 16 + 10, none⟩) hbw').trans (hcell' k hlt 10 _ rfl)
    have g11 := (hb.cell (p := ⟨b, k * 16 + 11, none⟩) hbw).trans (hcell k hlt 11 _ rfl)
    have h11' := (hb.cell (p := ⟨b', k * 16 + 11, none⟩) hbw').trans (hcell' k hlt 11 _ rfl)
    have g12 := (hb.cell (p := ⟨b, k * 16 + 12, none⟩) hbw).trans (hcell k hlt 12 _ rfl)
    have h12' := (hb.cell (p := ⟨b', k * 16 + 12, none⟩) hbw').trans (hcell' k hlt 12 _ rfl)
    have g13 := (hb.cell (p := ⟨b, k * 16 + 13, none⟩) hbw).trans (hcell k hlt 13 _ rfl)
    have h13' := (hb.cell (p := ⟨b', k * 16 + 13, none⟩) hbw').trans (hcell' k hlt 13 _ rfl)
    have g14 := (hb.cell (p := ⟨b, k * 16 + 14, none⟩) hbw).trans (hcell k hlt 14 _ rfl)
    have h14' := (hb.cell (p := ⟨b', k * 16 + 14, none⟩) hbw').trans (hcell' k hlt 14 _ rfl)
    have g15 := (hb.cell (p := ⟨b, k * 16 + 15, none⟩) hbw).trans (hcell k hlt 15 _ rfl)
    have h15' := (hb.cell (p := ⟨b', k * 16 + 15, none⟩) hbw').trans (hcell' k hlt 15 _ rfl)
    simp only [Nat.add_zero] at g0 h0'
    generalize ms.getD k M.g16z = m at *
    clear hcell hcell'
    go_wp2_with fail
    go_region_with (go_at_call 50; refine (c50z m _).mono ?_; rintro e w1 ⟨rfl, hb1⟩)
    all_goals go_wp2
    all_goals go_roundw
    all_goals first
     | exact ⟨k + 1, by omega, by go_num, (hb.drew).trans (hb1.mono hb.size)⟩
     | (simp [intOf]; omega)
  · go_wp2
    go_ret
    exact ⟨rfl, hb⟩
end Go.Proofs.YtpjpckmfehfniaaGreatDoor
namespace Go.Proofs.YtpjpckmfehfniaaGreatDoor
open Go.RowKit
theorem tick_ls {x : M.W19} {t : TN} {y : M.W19} {k : Nat} {C : List Value} (h : TickR x t y k C) {B : Nat} (hl : x.of.ls.length ≤ B) : y.of.ls.length ≤ B := by
 rcases h with ⟨_, rfl, _⟩ | ⟨_, _, rfl, _⟩ | ⟨_, _, _, rfl, _⟩ | ⟨_, _, _, rfl, _⟩
 · simp [M.w19z, M.g16z]
 · exact hl
 · exact hl
 · simp [M.g16z]
theorem tick_dis {x : M.W19} {t : TN} {y : M.W19} {k : Nat} {C : List Value} (h : TickR x t y k C) : k = 0 ∨ y.of.ls = [] := by
 rcases h with ⟨_, _, rfl, _⟩ | ⟨_, _, _, rfl, _⟩ | ⟨hok, _, hh, rfl, _⟩ | ⟨_, _, _, rfl, _⟩
 · exact .inl rfl
 · exact .inl rfl
 · rcases hok.2 with ⟨h1, _⟩ | ⟨_, hno⟩
   · rw [hh] at h1; exact absurd h1 (by decide)
   · right
     unfold M.NoOffer at hno
     simp_all
 · exact .inr rfl
def MsO (u : World) (lo hi : Nat) (a : Option Addr) (ms : List M.G16) : Prop := ms = [] ∨ ∃ g, a = some ⟨g, 0, none⟩ ∧ lo ≤ g ∧ g < hi ∧ g < u.heap.size ∧ (∀ i, u.frozen? ⟨g, i, none⟩ = false) ∧ ∀ i, i < ms.length * 16 → u.cell? ⟨g, i, none⟩ = (msC ms)[i]?
theorem ms_own {u : World} {lo : Nat} {v : Value} {ms : List M.G16} (h : u.ownsRow lo 48 16 v ms.length (msC ms)) : ∃ a c, v = .slice a ms.length c ∧ MsO u lo u.heap.size a ms := by
 have h' := h
 rcases h.2 with ⟨hv, h0⟩ | ⟨g, cap, cur, hv, hg, hh, _⟩
 · exact ⟨none, 0, by rw [hv, h0], .inl (List.length_eq_zero_iff.1 h0)⟩
 · subst hv
   exact ⟨some ⟨g, 0, none⟩, cap, rfl, .inr ⟨g, rfl, hg, blk_lt hh, blk_lt hh, fun i => h'.frozenAt i, fun i hi => h'.cellAt i hi⟩⟩
theorem mso_at {u : World} {lo hi : Nat} {a : Option Addr} {ms : List M.G16} (h : MsO u lo hi a ms) : MsAt u a ms := by
 rcases h with h | ⟨g, h1, _, _, h2, _, h3⟩
 · exact .inl h
 · refine .inr ⟨g, h1, h2, fun i hi j v hv => ?_⟩
   have hj : j < 16 := by have := (List.getElem?_eq_some_iff.1 hv).1; rw [msgL_len] at this; exact this
   rw [h3 _ (by omega)]
   exact msC_get ms i hi j v hv
theorem mso_below {u u' : World} {lo hi : Nat} {a : Option Addr} {ms : List M.G16} (h : MsO u lo hi a ms) (hb : Below u.heap.size u u') : MsO u' lo hi a ms :=
 h.imp id fun ⟨g, h1, h2, h3, h4, h5, h6⟩ => ⟨g, h1, h2, h3, Nat.lt_of_lt_of_le h4 hb.size, fun i => by rw [hb.frozen (by exact h4)]; exact h5 i, fun i hi => by rw [hb.cell (by exact h4)]; exact h6 i hi⟩
theorem mso_but {u u' : World} {lo hi b : Nat} {a : Option Addr} {ms : List M.G16} (h : MsO u lo hi a ms) (hb : M.But b u u') (hg : ms = [] ∨ b < lo ∨ hi ≤ b) : MsO u' lo hi a ms := by
 rcases h with h | ⟨g, h1, h2, h3, h4, h5, h6⟩
 · exact .inl h
 · rcases hg with hg | hg
   · exact .inl hg
   · have hne : g ≠ b := by omega
     exact .inr ⟨g, h1, h2, h3, Nat.lt_of_lt_of_le h4 hb.size, fun i => by unfold World.frozen?; rw [hb.block _ h4 hne]; exact h5 i, fun i hi => by rw [hb.cell (by exact h4) hne]; exact h6 i hi⟩
theorem mso_mki {u : World} {g : Nat} {ms : List M.G16} (K : Int) (h4 : g < u.heap.size) (h5 : ∀ i, u.frozen? ⟨g, i, none⟩ = false) (h6 : ∀ i, i < ms.length * 16 → u.cell? ⟨g, i, none⟩ = (msC ms)[i]?) : MkI K u u g ms.length 0 := by
 refine ⟨M.But.refl _ _, h4, fun i hi => ?_, h5, fun i hi => ?_, fun i hi => absurd hi (Nat.not_lt_zero _)⟩
 · rw [h6 i hi]
   have hz : i < (msC ms).length := by rw [msC_len]; exact hi
   exact ⟨_, List.getElem?_eq_getElem hz⟩
 · rw [h6 _ (by omega)]
   exact msC_get ms i hi 8 _ rfl
set_option maxHeartbeats 1000000 in
theorem c21z (K : Int) (a : Option Addr) (cap : Nat) (w : World) :
 Calls Tryz.prog 21 #[.slice a 0 cap, .int .i64 K] w fun e w' => e = .returned (.int .i64 K) ∧ Below w.heap.size w w' := by
 go_enter Tryz.func21, Tryz.ntmps21
 go_wp2_with fail
 go_loopw [1, 5] (fun q i wr => i = .int .i64 0 ∧ q = .int .i64 K ∧ Below w.heap.size w wr) (fun _ _ _ => 0)
 case atStart => exact ⟨rfl, rfl, Below.refl _ _⟩
 case round =>
  obtain ⟨rfl, rfl, hb⟩ := hrel
  go_wp2
  go_ret
  exact ⟨rfl, hb⟩
def MsK (K : Int) (u : World) (g : Nat) (a : Option Addr) (ms : List M.G16) : Prop := ms = [] ∨ (a = some ⟨g, 0, none⟩ ∧ g < u.heap.size ∧ ∀ i, i < ms.length * 16 → u.cell? ⟨g, i, none⟩ = mkc K i)
theorem msk_below {K : Int} {u u' : World} {g : Nat} {a : Option Addr} {ms : List M.G16} (h : MsK K u g a ms) (hb : Below u.heap.size u u') : MsK K u' g a ms :=
 h.imp id fun ⟨h1, h2, h3⟩ => ⟨h1, Nat.lt_of_lt_of_le h2 hb.size, fun i hi => by rw [hb.cell (by exact h2)]; exact h3 i hi⟩
theorem c21h (K : Int) (ms : List M.G16) (a : Option Addr) (lo hi c : Nat) (w : World) (hK1 : 1 ≤ K) (hK2 : K ≤ 5000000) (hn : ms.length ≤ 100) (hh : MsO w lo hi a ms) (d : Nat) :
 Calls Tryz.prog 21 #[.slice a ms.length c, .int .i64 K] w fun e w' => ∃ g, (g = d ∧ ms = [] ∨ lo ≤ g ∧ g < hi ∧ ms ≠ []) ∧ e = .returned (.int .i64 (K + 15 * (ms.length : Int))) ∧ M.But g w w' ∧ MsK K w' g a ms := by
 by_cases h0 : ms = []
 · subst h0
   refine (c21z K a c w).mono fun e w' ⟨he, hb⟩ => ⟨d, .inl ⟨rfl, rfl⟩, by rw [he]; simp, M.But.of_below hb, .inl rfl⟩
 · rcases hh with h | ⟨g, h1, h2, h3, h4, h5, h6⟩
   · exact absurd h h0
   · refine (c21 K a g ms.length c w hK1 hK2 (.inr h1) hn (mso_mki K h4 h5 h6)).mono fun e w' ⟨he, hm⟩ => ⟨g, .inr ⟨h2, h3, h0⟩, he, hm.but, .inr ⟨h1, hm.lt, hm.done⟩⟩
theorem c23h (K : Int) (ms : List M.G16) (a : Option Addr) (g c : Nat) (w : World) (hK1 : 1 ≤ K) (hK2 : K ≤ 5000000) (hn : ms.length ≤ 100) (hh : MsK K w g a ms) :
 Calls Tryz.prog 23 #[.slice a ms.length c, .int .i64 K] w fun e w' => e = .returned (.int .i64 (K + 15 * (ms.length : Int))) ∧ Below w.heap.size w w' := by
 rcases hh with h | ⟨h1, h2, h3⟩
 · subst h
   exact c23 K a g 0 c w hK1 hK2 (.inl rfl) (by omega) (.inl rfl) (fun i hi => by omega)
 · exact c23 K a g ms.length c w hK1 hK2 (.inr h1) hn (.inr h2) h3
theorem lkb_none {u : World} {lo hi : Nat} {ao : Option Addr} {is : List M.L4} (h : M.LkB u lo hi ao is) (d : Nat) : ∃ g, (g = d ∧ is = [] ∨ lo ≤ g ∧ g < hi ∧ is ≠ []) ∧ (is = [] ∨ (ao = some ⟨g, 0, none⟩ ∧ M.Open4 u g is.length)) := by
 by_cases h0 : is = []
 · exact ⟨d, .inl ⟨rfl, h0⟩, .inl h0⟩
 · rcases h with h | ⟨g, h1, h2, h3, h4, h5⟩
   · exact absurd h h0
   · exact ⟨g, .inr ⟨h2, h3, h0⟩, .inr ⟨h1, h4⟩⟩
end Go.Proofs.YtpjpckmfehfniaaGreatDoor
