import Derived.Test.YtboojefodbjbcaaGreatDoorZR03
import Derived.Shelf.Strings.Builder1
import Derived.Test.YtboojefodbjbcaaGreatDoorProg
import Derived.Laws.Externs
import Derived.Laws.BitsAllLaws
import Derived.Deep.RegionLaw
import Derived.WalkKit
import Derived.Laws.BytesArg
namespace Go.Proofs.YtboojefodbjbcaaGreatDoor.G
open Go.RowKit
open T (lt cmpB cmpB_neg cmpB_zero lt_trans' lt_irrefl' c96)
theorem placeM_free {ms : List M3} {nm : ByteArray} {p : Nat} {f : Bool} (hm : AscM ms) (h : PlaceM ms nm p f) : (f = true → ∃ i, i = p ∧ i < ms.length ∧ (ms.getD i m3z).nm = nm) ∧ (f = false → ∀ j, j < ms.length → (ms.getD j m3z).nm ≠ nm) := by
 refine ⟨fun e => ⟨p, rfl, h.here.1 e⟩, fun e j hj hn => ?_⟩
 subst e
 rcases Nat.lt_trichotomy j p with h1 | h1 | h1
 · have a1 := h.less j h1
   rw [hn, lt_irrefl'] at a1; cases a1
 · subst h1
   have := h.here.2 ⟨hj, hn⟩
   cases this
 · have a1 := hm p j h1 hj
   rw [hn] at a1
   have a2 := h.more p (Nat.le_refl _) (by omega)
   rw [a1] at a2; cases a2
theorem rzM {w u : World} (hb : Below (w.heap.size + 1) (w.alloc (.cells #[.string ⟨#[]⟩, .string ⟨#[]⟩, .string ⟨#[]⟩] 51)) u) :
 (u.cell? ⟨w.heap.size, 0, none⟩ = some (.string ⟨#[]⟩) ∧ u.cell? ⟨w.heap.size, 1, none⟩ = some (.string ⟨#[]⟩) ∧ u.cell? ⟨w.heap.size, 2, none⟩ = some (.string ⟨#[]⟩)) ∧ u.frozen? ⟨w.heap.size, 0, none⟩ = false ∧ u.frozen? ⟨w.heap.size, 1, none⟩ = false ∧ u.frozen? ⟨w.heap.size, 2, none⟩ = false := by
 have c : ∀ b j, b < w.heap.size + 1 → u.cell? ⟨b, j, none⟩ = (w.alloc (.cells #[.string ⟨#[]⟩, .string ⟨#[]⟩, .string ⟨#[]⟩] 51)).cell? ⟨b, j, none⟩ := fun b j h => hb.cell (by exact h)
 have f : ∀ b j, b < w.heap.size + 1 → u.frozen? ⟨b, j, none⟩ = (w.alloc (.cells #[.string ⟨#[]⟩, .string ⟨#[]⟩, .string ⟨#[]⟩] 51)).frozen? ⟨b, j, none⟩ := fun b j h => hb.frozen (by exact h)
 rw [c _ _ (by omega), c _ _ (by omega), c _ _ (by omega), f _ _ (by omega), f _ _ (by omega), f _ _ (by omega)]
 simp [go_sem]
def Is42 (ms : List M3) (nm : ByteArray) (e : Ending) : Prop := ∃ (x : M3) (there : Bool), e = .returned (.tuple #[.agg #[.string x.nm, .string x.tl, .string x.ar], .bool there]) ∧ ((there = true ∧ ∃ i, i < ms.length ∧ ms.getD i m3z = x ∧ x.nm = nm) ∨ (there = false ∧ ∀ j, j < ms.length → (ms.getD j m3z).nm ≠ nm))
set_option maxHeartbeats 2000000 in
theorem c49 (a : Option Addr) (cap : Nat) (ms : List M3) (nm : ByteArray) (w : World) (hl : ms.length ≤ 300) (hat : MksAt w a ms) (hm : AscM ms) :
 Calls Tryz.prog 49 #[.slice a ms.length cap, .string nm] w fun e w' => Is42 ms nm e ∧ Below w.heap.size w w' := by
 have hB0 : Below w.heap.size w (w.alloc (.cells #[.string ⟨#[]⟩, .string ⟨#[]⟩, .string ⟨#[]⟩] 51)) := (Below.refl _ _).alloc (Nat.le_refl _) _
 have h35 := c94 a cap ms nm _ hl (mks_below hat hB0) hm
 go_enter Tryz.func49, Tryz.ntmps49
 go_wp2_with fail
 refine h35.mono ?_
 rintro e w1 ⟨⟨p, f, rfl, hp⟩, hb1⟩
 obtain ⟨P1, P2⟩ := placeM_free hm hp
 have hx1 : Below (w.heap.size + 1) (w.alloc (.cells #[.string ⟨#[]⟩, .string ⟨#[]⟩, .string ⟨#[]⟩] 51)) w1 := by have h := hb1; simp at h; exact h
 have hB1 : Below w.heap.size w w1 := hB0.trans (hx1.mono (by omega))
 obtain ⟨⟨z0, z1, z2⟩, y0, y1, y2⟩ := rzM hx1
 clear hb1 h35
 cases f
 · have HI : Hid (Is42 ms nm (.returned (.tuple #[.agg #[.string ⟨#[]⟩, .string ⟨#[]⟩, .string ⟨#[]⟩], .bool false]))) := ⟨⟨⟨#[]⟩, ⟨#[]⟩, ⟨#[]⟩⟩, false, rfl, .inr ⟨rfl, P2 rfl⟩⟩
   clear P1 P2 hp
   go_wp2
   have F := set3_at w1 w.heap.size 0 (.string ⟨#[]⟩) (.string ⟨#[]⟩) (.string ⟨#[]⟩) _ _ _ z0 z1 z2
   refine bodyPost_ret (v := .tuple #[.agg #[.string ⟨#[]⟩, .string ⟨#[]⟩, .string ⟨#[]⟩], .bool false]) (by simp [results, Tryz.results49, go_sem, F.1, F.2.1, F.2.2]) rfl ⟨HI.out, ?_⟩
   exact ((hB1.setCell (by simp) _).setCell (by simp) _).setCell (by simp) _
 · obtain ⟨i, rfl, hi, hn⟩ := P1 rfl
   obtain ⟨b, off, hc⟩ := mks_some hat
   rcases hc with hss | ⟨ha, hbw, hcell⟩
   · rw [hss] at hi; exact absurd hi (Nat.not_lt_zero _)
   subst ha
   have g0 := (hB1.cell (p := ⟨b, off + i * 3, none⟩) hbw).trans (hcell i hi).1
   have g1 := (hB1.cell (p := ⟨b, off + i * 3 + 1, none⟩) hbw).trans (hcell i hi).2.1
   have g2 := (hB1.cell (p := ⟨b, off + i * 3 + 2, none⟩) hbw).trans (hcell i hi).2.2
   have HI : Hid (Is42 ms nm (.returned (.tuple #[.agg #[.string (ms.getD i m3z).nm, .string (ms.getD i m3z).tl, .string (ms.getD i m3z).ar], .bool true]))) := ⟨_, true, rfl, .inl ⟨rfl, i, hi, rfl, hn⟩⟩
   have HX : Hid (∃ x, x = ms.getD i m3z) := ⟨_, rfl⟩
   obtain ⟨x, hx⟩ := HX.out
   rw [← hx] at g0 g1 g2 HI
   clear P1 P2 hp hcell HX hx hn
   go_wp2
   have F := set3_at w1 w.heap.size 0 (.string x.nm) (.string x.tl) (.string x.ar) _ _ _ z0 z1 z2
   refine bodyPost_ret (v := .tuple #[.agg #[.string x.nm, .string x.tl, .string x.ar], .bool true]) (by simp [results, Tryz.results49, go_sem, F.1, F.2.1, F.2.2]) rfl ⟨HI.out, ?_⟩
   exact ((hB1.setCell (by simp) _).setCell (by simp) _).setCell (by simp) _
end Go.Proofs.YtboojefodbjbcaaGreatDoor.G
namespace Go.Proofs
open Go.Shelf
def Tryz.lays169_ren : Go.Shelf.Ren := ⟨fun | 169 => 156 | n => n, fun | 70 => 249 | 9 => 9 | 0 => 0 | 72 => 251 | 37 => 175 | 127 => 260 | 3 => 3 | 5 => 5 | n => n, fun | n => n⟩
theorem Tryz.lays169 : Go.Proofs.Lays.n169 Tryz.prog Tryz.lays169_ren := {
 mixed := by kernel_rfl
 f169 := Tryz.func156.trans (congrArg some (by kernel_rfl))
 t0 := Tryz.underlying0
 a0 := Tryz.isAgg0
 z0 := Tryz.sizeOf0
 v0 := Tryz.zeroValue0
 t3 := Tryz.underlying3
 a3 := Tryz.isAgg3
 z3 := Tryz.sizeOf3
 v3 := Tryz.zeroValue3
 t9 := Tryz.underlying9
 a9 := Tryz.isAgg9
 z9 := Tryz.sizeOf9
 v9 := Tryz.zeroValue9
 t37 := Tryz.underlying175
 a37 := Tryz.isAgg175
 z37 := Tryz.sizeOf175
 v37 := Tryz.zeroValue175
 t70 := Tryz.underlying249
 a70 := Tryz.isAgg249
 z70 := Tryz.sizeOf249
 v70 := Tryz.zeroValue249
 t72 := Tryz.underlying251
 a72 := Tryz.isAgg251
 z72 := Tryz.sizeOf251
 v72 := Tryz.zeroValue251
 t127 := Tryz.underlying260
 a127 := Tryz.isAgg260
 z127 := Tryz.sizeOf260
 v127 := Tryz.zeroValue260 }
theorem Tryz.Builder_Extra_169 : Builder.Extra Tryz.prog Tryz.lays169_ren := {
 sizeBuilder := by kernel_rfl
 liesBuilder := by kernel_rfl
 t5 := Tryz.underlying5
 a5 := Tryz.isAgg5
 z5 := Tryz.sizeOf5
 v5 := Tryz.zeroValue5
 infoByte := by kernel_rfl
 cellsByte := by kernel_rfl
 sizeByte := by kernel_rfl
 neB5 := by decide }
open Go.RowKit in
theorem Tryz.Builder_String_any (B b : Nat) (l : List UInt8) (w : World) (h : Lib.IsBuilder 251 5 B b (Lib.byteCells l) w) (hBw : B ≤ w.heap.size) :
 Calls Tryz.prog 156 #[.pointer (some ⟨b, 0, none⟩)] w fun e w' => e = .returned (.string ⟨l.toArray⟩) ∧ Below B w w' := Any.Builder_String_any Tryz.lays169 Tryz.Builder_Extra_169 B b l w h hBw
end Go.Proofs
namespace Go.Proofs.YtboojefodbjbcaaGreatDoor.G
open Go.RowKit
theorem info251 : (Tryz.prog.info? 251).map (fun i => i.size) = some 2 := by kernel_rfl
theorem info5 : (Tryz.prog.info? 5).map (fun i => (i.zero, i.size, i.bytes)) = some (some (.int .u8 0), 1, 1) := by kernel_rfl
theorem lies251 : liesAt Tryz.prog Tryz.prog.depth 251 (2 / Tryz.prog.cellsOf 251) 0 251 1 = true := by kernel_rfl
set_option maxHeartbeats 1000000 in
set_option maxRecDepth 100000 in
theorem check_used (b : Nat) (w : World) (h0 : w.cell? ⟨b, 0, none⟩ = some (.pointer (some ⟨b, 0, none⟩))) :
 Calls Tryz.prog 165 #[.pointer (some ⟨b, 0, none⟩)] w fun e w' => e = .returned (.tuple #[]) ∧ w' = w := by
 obtain ⟨j, hj, _⟩ := Option.map_eq_some_iff.1 info251
 have kn := Lib.run_neq_ptr_same (P := Tryz.prog) w ⟨b, 0, none⟩ Tryz.underlying249 hj
 go_enter Tryz.func165, Tryz.ntmps165
 go_wp2
 go_end0
 exact ⟨rfl, rfl⟩
set_option maxHeartbeats 1000000 in
theorem check_fresh (b : Nat) (w : World) (h0 : w.cell? ⟨b, 0, none⟩ = some (.pointer none)) (hsh : w.shape? b = some (251, 2)) (hfz : w.frozen? ⟨b, 0, none⟩ = false) :
 Calls Tryz.prog 165 #[.pointer (some ⟨b, 0, none⟩)] w fun e w' => e = .returned (.tuple #[]) ∧ w' = w.setCell ⟨b, 0, none⟩ (.pointer (some ⟨b, 0, none⟩)) := by
 obtain ⟨j, hj, hjs⟩ := Option.map_eq_some_iff.1 info251
 have k1 := Lib.run_to_unsafe (P := Tryz.prog) w ⟨b, 0, none⟩ Tryz.underlying249 Tryz.underlying208 hj (by rw [hjs]; decide) hsh (Nat.zero_lt_succ 1)
 have k3 := Lib.run_from_unsafe (P := Tryz.prog) w ⟨b, 0, none⟩ Tryz.underlying208 Tryz.underlying249 hj hsh lies251
 have k2 : ∀ x, Sem.run Tryz.prog (callFunc 171 #[x]) w = .ok (.value x) w := fun x => by
  rw [run_callFunc_extern Tryz.func171 (by kernel_rfl) (by kernel_rfl) (by kernel_rfl) (e := Extern.AbiNoEscape.same) (by kernel_rfl)]
  rw [Lib.run_noEscape]
  rfl
 go_enter Tryz.func165, Tryz.ntmps165
 go_wp2
 go_end0
 exact ⟨rfl, rfl⟩
theorem c165 (B b : Nat) (bs : List Value) (w : World) (h : Lib.IsBuilder 251 5 B b bs w) :
 Calls Tryz.prog 165 #[.pointer (some ⟨b, 0, none⟩)] w fun e w' => e = .returned (.tuple #[]) ∧ Lib.BuilderAt 251 5 B b (.pointer (some ⟨b, 0, none⟩)) bs w' ∧ Below B w w' ∧ w'.heap.size = w.heap.size := by
 rcases h with h | h
 · refine (check_fresh b w h.cell0 h.shape h.frozen0).mono ?_
   rintro e w' ⟨rfl, rfl⟩
   exact ⟨rfl, h.used _, (Below.refl B w).setCell (p := ⟨b, 0, none⟩) h.1 _, by simp⟩
 · refine (check_used b w h.cell0).mono ?_
   rintro e w' ⟨rfl, rfl⟩
   exact ⟨rfl, h, Below.refl B _, rfl⟩
theorem blk_lt {w : World} {b : Nat} {o : Obj} (h : w.heap[b]? = some o) : b < w.heap.size := by
 rcases Nat.lt_or_ge b w.heap.size with h' | h'
 · exact h'
 · simp [Array.getElem?_eq_none h'] at h
theorem row_form {w : World} {B : Nat} {e : TypeId} {v : Value} {n : Nat} {xs : List Value} (h : w.ownsRow B e 1 v n xs) : ∃ ao c, v = .slice ao n c := by
 rcases h.2 with ⟨hv, h0⟩ | ⟨g, cap, cur, hv, _⟩
 · exact ⟨none, 0, by rw [hv, h0]⟩
 · exact ⟨_, _, hv⟩
theorem app_keeps {w1 w2 : World} {b : Nat} {o : Obj} {v : Value} (hbk : w1.heap[b]? = some o) (hne : v.ownBlock ≠ some b) (hg : w1.grownBy w2 v.ownBlock) : w2.heap[b]? = some o := by
 rw [hg.block b (blk_lt hbk) (fun e => hne e.symm)]; exact hbk
set_option maxHeartbeats 1000000 in
set_option maxRecDepth 100000 in
theorem c154 (B b : Nat) (bs : List Value) (c : Int) (w : World) (h : Lib.IsBuilder 251 5 B b bs w) (hlen : bs.length + 1 ≤ 140737488355328) (hBw : B ≤ w.heap.size) :
 Calls Tryz.prog 154 #[.pointer (some ⟨b, 0, none⟩), .int .u8 c] w fun e w' => e = .returned .nilIface ∧ Lib.IsBuilder 251 5 B b (bs ++ [.int .u8 c]) w' ∧ Below B w w' := by
 obtain ⟨i0, hi, hz0, hz1, hz2⟩ := info_parts info5
 have HI : Hid (Lib.IsBuilder 251 5 B b bs w) := h
 clear h
 go_enter Tryz.func154, Tryz.ntmps154
 go_wp2_with fail
 refine (c165 B b bs w HI.out).mono ?_
 rintro e w1 ⟨rfl, h1, hb1, hs1⟩
 obtain ⟨hB, v, hbk, hown, hne⟩ := h1
 have hB1 : B ≤ w1.heap.size := by omega
 have HBK : Hid (w1.heap[b]? = some (.cells #[.pointer (some ⟨b, 0, none⟩), v] 251 (0, 0))) := hbk
 have HNE : Hid (v.ownBlock ≠ some b) := hne
 have c1 : w1.cell? ⟨b, 1, none⟩ = some v := by rw [Lib.cell_of_heap hbk]; rfl
 clear hbk hne hs1
 go_wp2_with (at_builtin; refine wpList_append_own _ rfl _ _ 175 rfl B 5 i0 (.int .u8 0) 1 1 Tryz.underlying175 hi hz0 hz1 hz2 rfl (by decide) _ _ _ rfl (hown.alloc _) ⟨w1.heap.size, 0, none⟩ 1 1 [.int .u8 c] rfl rfl (cell_one_new _ _ _) (by intro u hu; simp at hu; subst hu; rfl) (by unfold maxLen; omega) (by omega) (by simp; omega) ?_; intro v' w2 hown' hgrow _; have HB2 : Hid (w2.heap[b]? = some (.cells #[.pointer (some ⟨b, 0, none⟩), v] 251 (0, 0))) := app_keeps (v := v) (by rw [Below.heap_alloc w1 _ b (blk_lt HBK.out)]; exact HBK.out) HNE.out hgrow; have HG : Hid (Below B w w2) := (hb1.alloc hB1 _).grown hgrow (by simp; omega) (fun k hk => (hown.lt k hk).1); obtain ⟨ao, cp, rfl⟩ := row_form hown'; have d1 : w2.cell? ⟨b, 1, none⟩ = some v := (by rw [Lib.cell_of_heap HB2.out]; rfl); have f1 : w2.frozen? ⟨b, 1, none⟩ = false := Lib.frozen_of_heap HB2.out 1; clear hgrow)
 go_ret
 refine ⟨rfl, .inr ?_, ?_⟩
 · exact Lib.BuilderAt.put (T := 251) (e := 5) hB HB2.out (bs' := bs ++ [.int .u8 c]) (by simpa using hown') (by decide)
 · exact HG.out.setCell (p := ⟨b, 1, none⟩) hB _
theorem ownsRow_below {w w' : World} {base : Nat} {e : TypeId} {size : Nat} {v : Value} {n : Nat} {xs : List Value} (h : w.ownsRow base e size v n xs) (hb : Below w.heap.size w w') : w'.ownsRow base e size v n xs := by
 obtain ⟨h1, h2⟩ := h
 refine ⟨h1, ?_⟩
 rcases h2 with h | ⟨g, cap, cur, hv, hg, hh, hr⟩
 · exact .inl h
 · exact .inr ⟨g, cap, cur, hv, hg, by rw [hb.block g (blk_lt hh)]; exact hh, hr⟩
end Go.Proofs.YtboojefodbjbcaaGreatDoor.G
namespace Go.Proofs.YtboojefodbjbcaaGreatDoor.G
open Go.RowKit
def plainB (c : UInt8) : Bool := decide (32 ≤ (c.toNat : Int)) && decide ((c.toNat : Int) ≤ 126) && !((c.toNat : Int) == 34) && !((c.toNat : Int) == 92)
theorem ret_bool {a b : Bool} (h : a = b) : Ending.returned (.bool a) = .returned (.bool b) := by rw [h]
theorem ret_str {a b : ByteArray} (h : a = b) : Ending.returned (.string a) = .returned (.string b) := by rw [h]
set_option maxHeartbeats 400000 in
theorem c153 (c : UInt8) (w : World) :
 Calls Tryz.prog 153 #[.int .u8 c.toNat] w fun e w' => e = .returned (.bool (plainB c)) ∧ w' = w := by
 go_enter Tryz.func153, Tryz.ntmps153
 go_wp2
 all_goals go_ret
 all_goals refine ⟨ret_bool ?_, rfl⟩
 all_goals unfold plainB
 all_goals simp [*]
 all_goals first | omega | skip
 all_goals (try (simp only [bne]))
def hexL : List UInt8 := [48, 49, 50, 51, 52, 53, 54, 55, 56, 57, 97, 98, 99, 100, 101, 102]
def hexA : ByteArray := ⟨#[48, 49, 50, 51, 52, 53, 54, 55, 56, 57, 97, 98, 99, 100, 101, 102]⟩
theorem hex_get (n : Nat) (h : n < hexA.size) : hexA[n] = hexL.getD n 0 := by
 have h' : n < 16 := h
 obtain rfl | rfl | rfl | rfl | rfl | rfl | rfl | rfl | rfl | rfl | rfl | rfl | rfl | rfl | rfl | rfl : n = 0 ∨ n = 1 ∨ n = 2 ∨ n = 3 ∨ n = 4 ∨ n = 5 ∨ n = 6 ∨ n = 7 ∨ n = 8 ∨ n = 9 ∨ n = 10 ∨ n = 11 ∨ n = 12 ∨ n = 13 ∨ n = 14 ∨ n = 15 := by omega
 all_goals rfl
def qb (c : UInt8) : List UInt8 := if plainB c = true then [c] else [92, hexL.getD (c.toNat / 16) 0, hexL.getD (c.toNat % 16) 0]
def quoteL (l : List UInt8) : List UInt8 := 34 :: (l.flatMap qb ++ [34])
theorem qb_len (c : UInt8) : (qb c).length ≤ 3 := by unfold qb; split <;> simp
theorem flat_len (l : List UInt8) : (l.flatMap qb).length ≤ 3 * l.length := by
 induction l with
 | nil => simp
 | cons c l ih => have := qb_len c; simp only [List.flatMap_cons, List.length_append, List.length_cons]; omega
theorem quote_len (l : List UInt8) : (quoteL l).length ≤ 3 * l.length + 2 := by
 have := flat_len l; unfold quoteL; simp only [List.length_cons, List.length_append, List.length_nil]; omega
theorem take_snoc (s : ByteArray) (k : Nat) (h : k < s.size) : s.data.toList.take (k + 1) = s.data.toList.take k ++ [s[k]] := by
 rw [List.take_succ_eq_append_getElem (by simpa using h)]; rfl
theorem cells_snoc (l r : List UInt8) : Lib.byteCells (l ++ r) = Lib.byteCells l ++ Lib.byteCells r := by simp [Lib.byteCells]
theorem cells_len (l : List UInt8) : (Lib.byteCells l).length = l.length := by simp [Lib.byteCells]
end Go.Proofs.YtboojefodbjbcaaGreatDoor.G
namespace Go.Proofs.YtboojefodbjbcaaGreatDoor.G
open Go.RowKit
theorem step_app {P : Program} {ops : Array Oper} {o : Oper} {a : Act} {w : World} {K : Act → World → Prop} {Q : Exit → Act → World → Prop} {E : Prop}
 (hg : o.guard = none) (s x : Operand) (t : TypeId) (hop : o.op = Op.call { callee := Callee.builtin Builtin.append, args := #[s, x], argTypes := #[t, t] })
 (base : Nat) (e : TypeId) (i : TypeInfo) (z : Value) (size bytes : Nat) (h1 : P.underlying t = some (.slice e)) (h2 : P.info? e = some i) (h3 : i.zero = some z) (h4 : i.size = size) (h5 : i.bytes = bytes) (h6 : z.cells.size = size) (h7 : 0 < size)
 (v : Value) (n : Nat) (xs : List Value) (hs : a.eval s = v) (hown : w.ownsRow base e size v n xs)
 (ad : Addr) (m c : Nat) (news : List Value) (hx : a.eval x = .slice (some ad) m c) (hn : news.length = m * size) (hc : ∀ j u, news[j]? = some u → w.cell? (ad.add j) = some u) (h1c : ∀ u ∈ news, u.oneCell' = true)
 (b1 : n + m ≤ maxLen) (b2 : (n + m) * bytes ≤ 140737488355328) (hb : base ≤ w.heap.size)
 (hK : ∀ v' w', w'.ownsRow base e size v' (n + m) (xs ++ news) → w.grownBy w' v.ownBlock → K (a.put o.dst v') w') :
 if Region.wanted o (yielded ops a.tmps) = true then Oper.wp P o a w K Q else E := by
 have hw : Region.wanted o (yielded ops a.tmps) = true := by simp [Region.wanted, hg]
 rw [if_pos hw]
 obtain ⟨v', w', hrun, r1, r2, _⟩ := run_append_own (P := P) w base t o.type e i z size bytes h1 h2 h3 h4 h5 h6 h7 v n xs hown ad m c news hn hc h1c b1 b2 hb
 unfold Oper.wp
 simp [execOp, hop, resolve, invoke, builtin, hs, hx, hrun, Result.andThen]
 exact hK v' w' r1 r2
theorem conv_own {w : World} {base : Nat} {v : Value} {n : Nat} {l : List UInt8} (h : w.ownsRow base 5 1 v n (Lib.byteCells l)) (hn : 0 < n) : (convert 175 9 v).run Tryz.prog w = .ok (.string ⟨l.toArray⟩) w := by
 have h' := h
 obtain ⟨h1, h2⟩ := h
 rcases h2 with ⟨_, h0⟩ | ⟨g, cp, cur, rfl, hg, hh, _⟩
 · omega
 · have hl : l.length = n := by rw [cells_len] at h1; omega
   have := run_convert_bytes_arg (P := Tryz.prog) w 175 5 Tryz.underlying175 Tryz.underlying5 g 0 n cp (l.map fun b => (b.toNat : Int)) (by simpa using hl) (fun i hi => by
    rw [Nat.zero_add, h'.cellAt i (by omega)]
    have hi' : i < l.length := by omega
    simp [Lib.byteCells, hi']) 9 Tryz.underlying9
   rw [this]
   have e : l.map ((fun n : Int => UInt8.ofNat n.toNat) ∘ fun b => (b.toNat : Int)) = l := (List.map_congr_left (fun b _ => by simp)).trans (List.map_id l)
   simp only [strOfNums, List.map_map, e]
theorem notPlain {c : UInt8} (h : ¬ plainB c = true) : (c.toNat : Int) < 32 ∨ 126 < (c.toNat : Int) ∨ ((32 : Int) ≤ (c.toNat : Int) ∧ (c.toNat : Int) ≤ 126 ∧ ((c.toNat : Int) != 34) = false) ∨ ((32 : Int) ≤ (c.toNat : Int) ∧ (c.toNat : Int) ≤ 126 ∧ ((c.toNat : Int) != 34) = true ∧ ((c.toNat : Int) != 92) = false) := by
 unfold plainB at h
 simp only [Bool.and_eq_true, decide_eq_true_eq, Bool.not_eq_true', beq_eq_false_iff_ne] at h
 simp only [bne_eq_false_iff_eq, bne_iff_ne]
 omega
theorem wrap_div (c : UInt8) : IntKind.u8.wrap ((c.toNat : Int) / 16) = (c.toNat : Int) / 16 := by
 have := c.toNat_lt
 simp [IntKind.wrap, IntKind.signed, IntKind.bits]; omega
theorem row3 (w : World) (x y z : Value) (t : TypeId) : ∀ j u, [x, y, z][j]? = some u → (w.alloc (.cells #[x, y, z] t)).drew.cell? ((⟨w.heap.size, 0, none⟩ : Addr).add j) = some u := by
 intro j u h
 match j, h with
 | 0, h => simp at h; subst h; simp [Addr.add]
 | 1, h => simp at h; subst h; simp [Addr.add]
 | 2, h => simp at h; subst h; simp [Addr.add]
set_option maxHeartbeats 2000000 in
set_option maxRecDepth 100000 in
theorem c163 (s : ByteArray) (w : World) (hs : s.size ≤ 1048700) :
 Calls Tryz.prog 163 #[.string s] w fun e w' => e = .returned (.string ⟨(quoteL s.data.toList).toArray⟩) ∧ Below w.heap.size w w' := by
 obtain ⟨i0, hi, hz0, hz1, hz2⟩ := info_parts info5
 go_enter Tryz.func163, Tryz.ntmps163
 go_wp2_with fail
 go_loopw [3, 5] (fun v i wr => ∃ (k : Nat), k ≤ s.size ∧ i = .int .i64 k ∧ wr.ownsRow w.heap.size 5 1 v (34 :: (s.data.toList.take k).flatMap qb).length (Lib.byteCells (34 :: (s.data.toList.take k).flatMap qb)) ∧ Below w.heap.size w wr ∧ w.heap.size + 1 ≤ wr.heap.size) (fun _ i _ => s.size - (intOf i).toNat)
 case atStart => exact ⟨0, Nat.zero_le _, rfl, World.ownsRow_lit _ #[.int .u8 34] 1 (Nat.le_refl _) (by unfold maxLen; omega) rfl, (Below.refl _ _).alloc (Nat.le_refl _) _, by simp⟩
 case round =>
  obtain ⟨k, hk, rfl, hown, hb, hz⟩ := hrel
  have hL : (34 :: (s.data.toList.take k).flatMap qb : List UInt8).length ≤ 3 * k + 1 := by
   have := flat_len (s.data.toList.take k)
   have h2 : (s.data.toList.take k).length ≤ k := List.length_take_le _ _
   rw [List.length_cons]; omega
  by_cases hlt : k < s.size
  · have HS : Hid (34 :: (s.data.toList.take (k + 1)).flatMap qb = (34 :: (s.data.toList.take k).flatMap qb) ++ qb s[k]) := by rw [take_snoc s k hlt]; simp [Hid]
    generalize hl : (34 :: (s.data.toList.take k).flatMap qb : List UInt8) = l at *
    clear hl
    have hby : (s[k].toNat : Int) < 256 := by have := s[k].toNat_lt; omega
    by_cases hp : plainB s[k] = true
    · have HQ : Hid (qb s[k] = [s[k]]) := by unfold qb; rw [if_pos hp]; rfl
      unfold plainB at hp
      simp only [Bool.and_eq_true, decide_eq_true_eq, Bool.not_eq_true', beq_eq_false_iff_ne] at hp
      obtain ⟨⟨⟨p1, p2⟩, p3⟩, p4⟩ := hp
      have q3 : ((s[k].toNat : Int) != 34) = true := by simpa using p3
      have q4 : ((s[k].toNat : Int) != 92) = true := by simpa using p4
      go_wp2_with (at_builtin; refine wpList_append_own _ rfl _ _ 175 rfl w.heap.size 5 i0 (.int .u8 0) 1 1 Tryz.underlying175 hi hz0 hz1 hz2 rfl (by decide) _ _ _ rfl (hown.alloc _) ⟨wr.heap.size, 0, none⟩ 1 1 [_] rfl rfl (cell_one_new _ _ _) (by intro u hu; simp at hu; subst hu; rfl) (by unfold maxLen; omega) (by omega) (by simp; omega) ?_; intro v' w2 hown' hgrow _)
      go_roundw
      case rel =>
       have hB2 : Below w.heap.size w w2 := (hb.alloc hb.size _).grown hgrow (by simp; omega) (fun j hj => (hown.lt j hj).1)
       refine ⟨k + 1, by omega, by go_num, ?_, hB2, by have := hgrow.size; simp at this; omega⟩
       rw [HS.out, HQ.out, cells_snoc, List.length_append]
       exact hown'
      case measure => simp [intOf]; omega
    · have HQ : Hid (qb s[k] = [92, hexL.getD (s[k].toNat / 16) 0, hexL.getD (s[k].toNat % 16) 0]) := by unfold qb; rw [if_neg hp]; rfl
      have hnp := notPlain hp
      have k1 : IntKind.u8.wrap ((s[k].toNat : Int) / 16) < 16 := by rw [wrap_div s[k]]; omega
      have k2 : 0 ≤ (s[k].toNat : Int).tmod 16 := by rw [Int.tmod_eq_emod_of_nonneg (by omega)]; omega
      have k3 : (s[k].toNat : Int).tmod 16 < 16 := by rw [Int.tmod_eq_emod_of_nonneg (by omega)]; omega
      clear hp
      have e1 : ∀ h1 : (IntKind.u8.wrap ((s[k].toNat : Int) / 16)).toNat < hexA.size, hexA[(IntKind.u8.wrap ((s[k].toNat : Int) / 16)).toNat]'h1 = hexL.getD (s[k].toNat / 16) 0 := fun h1 => by
       rw [hex_get]; congr 1; rw [wrap_div]; omega
      have e2 : ∀ h1 : ((s[k].toNat : Int).tmod 16).toNat < hexA.size, hexA[((s[k].toNat : Int).tmod 16).toNat]'h1 = hexL.getD (s[k].toNat % 16) 0 := fun h1 => by
       rw [hex_get]; congr 1
      have E1 : Hid (∀ h1 : (IntKind.u8.wrap ((s[k].toNat : Int) / 16)).toNat < hexA.size, hexA[(IntKind.u8.wrap ((s[k].toNat : Int) / 16)).toNat]'h1 = hexL.getD (s[k].toNat / 16) 0) := e1
      have E2 : Hid (∀ h1 : ((s[k].toNat : Int).tmod 16).toNat < hexA.size, hexA[((s[k].toNat : Int).tmod 16).toNat]'h1 = hexL.getD (s[k].toNat % 16) 0) := e2
      clear e1 e2
      rcases hnp with h | h | ⟨h, h', h''⟩ | ⟨h, h', h'', h3⟩
      all_goals
       go_wp2_with fail
       go_region_law (refine step_app rfl (.tmp 41) (.tmp 54) 175 rfl w.heap.size 5 i0 (.int .u8 0) 1 1 Tryz.underlying175 hi hz0 hz1 hz2 rfl (by decide) _ _ _ rfl ((hown.alloc _).drew) ⟨wr.heap.size, 0, none⟩ 3 3 [_, _, _] rfl rfl (row3 _ _ _ _ _) (by intro u hu; simp at hu; rcases hu with rfl | rfl | rfl <;> rfl) (by unfold maxLen; omega) (by omega) (by simp; omega) ?_; intro v' w2 hown' hgrow)
       all_goals go_wp2
       all_goals go_roundw
       all_goals first
        | (refine ⟨k + 1, by omega, by go_num, ?_, ((hb.alloc hb.size _).drew).grown hgrow (by simp; omega) (fun j hj => (hown.lt j hj).1), by have := hgrow.size; simp at this; omega⟩; rw [HS.out, HQ.out, cells_snoc, List.length_append]; have hq := hown'; rw [show Lib.byteCells [92, hexL.getD (s[k].toNat / 16) 0, hexL.getD (s[k].toNat % 16) 0] = [.int .u8 92, .int .u8 (hexA[(IntKind.u8.wrap ((s[k].toNat : Int) / 16)).toNat]'(by show _ < 16; omega)).toNat, .int .u8 (hexA[((s[k].toNat : Int).tmod 16).toNat]'(by show _ < 16; omega)).toNat] by rw [E1.out, E2.out]; rfl]; exact hq)
        | (simp [intOf]; omega)
  · have HT : Hid (quoteL s.data.toList = (34 :: (s.data.toList.take k).flatMap qb) ++ [34]) := by rw [List.take_of_length_le (by simp; omega)]; rfl
    generalize hl : (34 :: (s.data.toList.take k).flatMap qb : List UInt8) = l at *
    clear hl
    go_wp2_with (at_builtin; refine wpList_append_own _ rfl _ _ 175 rfl w.heap.size 5 i0 (.int .u8 0) 1 1 Tryz.underlying175 hi hz0 hz1 hz2 rfl (by decide) _ _ _ rfl (hown.alloc _) ⟨wr.heap.size, 0, none⟩ 1 1 [_] rfl rfl (cell_one_new _ _ _) (by intro u hu; simp at hu; subst hu; rfl) (by unfold maxLen; omega) (by omega) (by simp; omega) ?_; intro v' w2 hown' hgrow _; have hcv := conv_own (l := l ++ [34]) (by rw [cells_snoc]; exact hown') (by omega))
    go_ret
    have hB2 : Below w.heap.size w w2 := (hb.alloc hb.size _).grown hgrow (by simp; omega) (fun j hj => (hown.lt j hj).1)
    exact ⟨by rw [HT.out]; rfl, hB2⟩
end Go.Proofs.YtboojefodbjbcaaGreatDoor.G
/-
 The plain mathematics of names and decimals: no program is named here.
-/
namespace Go.Proofs.YtboojefodbjbcaaGreatDoor.G
open Go.RowKit
def isGraph (c : UInt8) : Bool := decide (33 ≤ (c.toNat : Int) ∧ (c.toNat : Int) ≤ 126)
def nameOk (l : List UInt8) : Bool := decide (1 ≤ l.length ∧ l.length ≤ 20) && l.all isGraph
theorem graph_iff (c : UInt8) : isGraph c = true ↔ 33 ≤ (c.toNat : Int) ∧ (c.toNat : Int) ≤ 126 := by simp [isGraph]
end Go.Proofs.YtboojefodbjbcaaGreatDoor.G
namespace Go.Proofs.YtboojefodbjbcaaGreatDoor.G
end Go.Proofs.YtboojefodbjbcaaGreatDoor.G
