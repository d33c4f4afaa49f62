import Derived.Test.YtpjpckmfehfniaaGreatDoorZC01
import Derived.Test.YtpjpckmfehfniaaGreatDoorZC03
import Derived.Test.YtpjpckmfehfniaaGreatDoorZC00
import Derived.Deep.RegionLaw
import Derived.Test.YtpjpckmfehfniaaGreatDoorZC02
namespace Go.Proofs.YtpjpckmfehfniaaGreatDoor
open Go.RowKit
theorem Kp.mono {base base' b : Nat} {w w' : World} (h : Kp base' b w w') (hle : base ≤ base') : Kp base b w w' := ⟨h.os, h.tape, h.output, h.size, fun k hk hne => h.block k (by omega) hne⟩
theorem Kp.free {base b : Nat} {w w' : World} (h : Kp base b w w') {p : Addr} (hp : p.block < base) (hne : p.block ≠ b) : w'.frozen? p = w.frozen? p := by
 unfold World.frozen?
 rw [h.block p.block hp hne]
def z42 : Obj := .cells #[.int .i64 0, .string ⟨#[]⟩] 28
theorem res_kept {w w2 : World} {b : Nat} (hb : b < w.heap.size) (hk : Kp (w.heap.size + 1) b (w.alloc z42) w2) :
 (w2.cell? ⟨w.heap.size, 0, none⟩ = some (.int .i64 0) ∧ w2.cell? ⟨w.heap.size, 1, none⟩ = some (.string ⟨#[]⟩)) ∧ w2.frozen? ⟨w.heap.size, 0, none⟩ = false ∧ w2.frozen? ⟨w.heap.size, 1, none⟩ = false := by
 have e : ∀ j, w2.cell? ⟨w.heap.size, j, none⟩ = (w.alloc z42).cell? ⟨w.heap.size, j, none⟩ := fun j => hk.cell (by simp) (by simp; omega)
 have f : ∀ j, w2.frozen? ⟨w.heap.size, j, none⟩ = (w.alloc z42).frozen? ⟨w.heap.size, j, none⟩ := fun j => hk.free (by simp) (by simp; omega)
 rw [e, e, f, f]
 unfold z42
 simp
set_option maxHeartbeats 1000000 in
theorem c189a (b : Nat) (r : RC) (hs : Bool) (w : World) (h : RunAt w b r) (hh : r.hand.size ≤ 300) (hn : nameOk r.hand.data.toList = false) :
 Calls Tryz.prog 189 #[.pointer (some ⟨b, 0, none⟩), .bool hs] w fun e w' => e = .returned (.tuple #[.agg #[.int .i64 0, .string ⟨#[]⟩], .bool false]) ∧ RunAt w' b (r.fin 4 ⟨#[63]⟩) ∧ Kp w.heap.size b w w' := by
 have HR : Hid (RunAt (w.alloc z42) b r) := run_alloc h _
 have c2 : w.cell? ⟨b, 2, none⟩ = some (.string r.hand) := run_cell h 2
 have hlt := run_lt h
 have hle : w.heap.size ≤ w.heap.size := Nat.le_refl _
 have HN : Hid (nameOk r.hand.data.toList = false) := hn
 have HA : Hid (Kp w.heap.size b w (w.alloc z42)) := (Kp.refl _ b w).alloc hle _
 clear h hn
 go_enter Tryz.func189, Tryz.ntmps189
 go_wp2_with fail
 refine (c87 r.hand _ (by omega)).mono ?_
 rintro e w1 ⟨rfl, rfl⟩
 rw [HN.out]
 go_wp2_with fail
 refine (c134 (w.heap.size + 1) b r 4 ⟨#[63]⟩ _ HR.out).mono ?_
 rintro e w2 ⟨rfl, h2, hk0⟩
 have hk : Kp (w.heap.size + 1) b (w.alloc z42) w2 := hk0
 obtain ⟨⟨q0, q1⟩, g0, g1⟩ := res_kept hlt hk
 have H2 : Hid (RunAt w2 b (r.fin 4 ⟨#[63]⟩)) := h2
 have HK : Hid (Kp w.heap.size b w w2) := HA.out.trans (hk.mono (by omega))
 have e00 := World.cell?_setCell_same w2 ⟨w.heap.size, 0, none⟩ (.int .i64 0) q0
 obtain ⟨e0, e1⟩ := set2_at w2 w.heap.size 0 (.int .i64 0) (.string ⟨#[]⟩) _ _ q0 q1
 clear e0
 clear h2 hk hk0
 go_wp2
 have hne : b ≠ w.heap.size := by omega
 refine bodyPost_ret (v := .tuple #[.agg #[.int .i64 0, .string ⟨#[]⟩], .bool false]) (by simp [results, Tryz.results189, go_sem, e00, e1]) rfl ⟨rfl, ?_, ?_⟩
 · unfold RunAt
   rw [heap_setCell_other _ _ _ _ (by exact hne), heap_setCell_other _ _ _ _ (by exact hne)]
   exact H2.out
 · exact HK.out.trans (Kp.of_base (((Below.refl w.heap.size _).setCell (by exact hle) _).setCell (by exact hle) _))
set_option maxHeartbeats 1000000 in
theorem c189b (b : Nat) (r : RC) (hs : Bool) (w : World) (h : RunAt w b r) (hh : r.hand.size ≤ 300) (hn : nameOk r.hand.data.toList = true) (hl : r.looks = 14) :
 Calls Tryz.prog 189 #[.pointer (some ⟨b, 0, none⟩), .bool hs] w fun e w' => e = .returned (.tuple #[.agg #[.int .i64 0, .string ⟨#[]⟩], .bool false]) ∧ RunAt w' b (r.fin 3 ⟨#[]⟩) ∧ Kp w.heap.size b w w' := by
 have HR : Hid (RunAt (w.alloc z42) b r) := run_alloc h _
 have c2 : w.cell? ⟨b, 2, none⟩ = some (.string r.hand) := run_cell h 2
 have cx5 : w.cell? ⟨b, 5, none⟩ = some (.int .i64 14) := by rw [← hl]; exact run_cell h 5
 have hlt := run_lt h
 have hle : w.heap.size ≤ w.heap.size := Nat.le_refl _
 have HN : Hid (nameOk r.hand.data.toList = true) := hn
 have HA : Hid (Kp w.heap.size b w (w.alloc z42)) := (Kp.refl _ b w).alloc hle _
 clear h hn
 go_enter Tryz.func189, Tryz.ntmps189
 go_wp2_with fail
 refine (c87 r.hand _ (by omega)).mono ?_
 rintro e w1 ⟨rfl, rfl⟩
 rw [HN.out]
 go_wp2_with fail
 refine (c134 (w.heap.size + 1) b r 3 ⟨#[]⟩ _ HR.out).mono ?_
 rintro e w2 ⟨rfl, h2, hk0⟩
 have hk : Kp (w.heap.size + 1) b (w.alloc z42) w2 := hk0
 obtain ⟨⟨q0, q1⟩, g0, g1⟩ := res_kept hlt hk
 have H2 : Hid (RunAt w2 b (r.fin 3 ⟨#[]⟩)) := h2
 have HK : Hid (Kp w.heap.size b w w2) := HA.out.trans (hk.mono (by omega))
 have e00 := World.cell?_setCell_same w2 ⟨w.heap.size, 0, none⟩ (.int .i64 0) q0
 obtain ⟨e0, e1⟩ := set2_at w2 w.heap.size 0 (.int .i64 0) (.string ⟨#[]⟩) _ _ q0 q1
 clear e0
 clear h2 hk hk0
 go_wp2
 have hne : b ≠ w.heap.size := by omega
 refine bodyPost_ret (v := .tuple #[.agg #[.int .i64 0, .string ⟨#[]⟩], .bool false]) (by simp [results, Tryz.results189, go_sem, e00, e1]) rfl ⟨rfl, ?_, ?_⟩
 · unfold RunAt
   rw [heap_setCell_other _ _ _ _ (by exact hne), heap_setCell_other _ _ _ _ (by exact hne)]
   exact H2.out
 · exact HK.out.trans (Kp.of_base (((Below.refl w.heap.size _).setCell (by exact hle) _).setCell (by exact hle) _))
set_option maxHeartbeats 1000000 in
theorem c189c (b : Nat) (r : RC) (hs : Bool) (w : World) (h : RunAt w b r) (hh : r.hand.size ≤ 300) (hn : nameOk r.hand.data.toList = true) (a : Option Addr) (n cap : Nat) (hl : r.looks = n) (hl2 : n < 14) (hrs : r.reps = .slice a n cap) :
 Calls Tryz.prog 189 #[.pointer (some ⟨b, 0, none⟩), .bool hs] w fun e w' => e = .returned (.tuple #[.agg #[.int .i64 0, .string ⟨#[]⟩], .bool false]) ∧ RunAt w' b (r.stop hs) ∧ Kp w.heap.size b w w' := by
 have HR : Hid (RunAt (w.alloc z42) b r) := run_alloc h _
 have c2 : w.cell? ⟨b, 2, none⟩ = some (.string r.hand) := run_cell h 2
 have cx5 : w.cell? ⟨b, 5, none⟩ = some (.int .i64 n) := by rw [← hl]; exact run_cell h 5
 have cx4 : w.cell? ⟨b, 4, none⟩ = some (.slice a n cap) := by rw [run_cell h 4, ← hrs]; rfl
 have hlt := run_lt h
 have hle : w.heap.size ≤ w.heap.size := Nat.le_refl _
 have HN : Hid (nameOk r.hand.data.toList = true) := hn
 have HA : Hid (Kp w.heap.size b w (w.alloc z42)) := (Kp.refl _ b w).alloc hle _
 clear h hn
 go_enter Tryz.func189, Tryz.ntmps189
 go_wp2_with fail
 refine (c87 r.hand _ (by omega)).mono ?_
 rintro e w1 ⟨rfl, rfl⟩
 rw [HN.out]
 go_wp2_with fail
 go_region
 go_wp2_with fail
 refine (c210 (w.heap.size + 1) b r hs (w.alloc z42).drew HR.out).mono ?_
 rintro e w2 ⟨rfl, h2, hk0⟩
 have hk : Kp (w.heap.size + 1) b (w.alloc z42) w2 := (Kp.refl _ b (w.alloc z42)).drew.trans hk0
 obtain ⟨⟨q0, q1⟩, g0, g1⟩ := res_kept hlt hk
 have H2 : Hid (RunAt w2 b (r.stop hs)) := h2
 have HK : Hid (Kp w.heap.size b w w2) := HA.out.trans (hk.mono (by omega))
 have e00 := World.cell?_setCell_same w2 ⟨w.heap.size, 0, none⟩ (.int .i64 0) q0
 obtain ⟨e0, e1⟩ := set2_at w2 w.heap.size 0 (.int .i64 0) (.string ⟨#[]⟩) _ _ q0 q1
 clear e0
 clear h2 hk hk0
 go_wp2
 have hne : b ≠ w.heap.size := by omega
 refine bodyPost_ret (v := .tuple #[.agg #[.int .i64 0, .string ⟨#[]⟩], .bool false]) (by simp [results, Tryz.results189, go_sem, e00, e1]) rfl ⟨rfl, ?_, ?_⟩
 · unfold RunAt
   rw [heap_setCell_other _ _ _ _ (by exact hne), heap_setCell_other _ _ _ _ (by exact hne)]
   exact H2.out
 · exact HK.out.trans (Kp.of_base (((Below.refl w.heap.size _).setCell (by exact hle) _).setCell (by exact hle) _))
theorem St.kp {base b : Nat} {w w' : World} {r r' : RC} {out : List UInt8} (h : St base b w r out) (hk : Kp w.heap.size b w w') (hr : RunAt w' b r') (hp : r'.p = r.p) (hv : r'.v = r.v) : St base b w' r' out := by
 refine ⟨h.lt, Nat.le_trans h.le hk.size, hr, by rw [hp]; exact h.ptr, ?_⟩
 rw [hv]
 obtain ⟨h1, h2⟩ := h.own
 refine ⟨h1, ?_⟩
 rcases h2 with h2 | ⟨g, cap, cur, hv, hg, hh, hr⟩
 · exact .inl h2
 · refine .inr ⟨g, cap, cur, hv, hg, ?_, hr⟩
   have := h.lt
   rw [hk.block g (blk_lt hh) (by omega)]; exact hh
set_option maxHeartbeats 1000000 in
theorem c189d (b : Nat) (r : RC) (hs : Bool) (w : World) (h : RunAt w b r) (hh : r.hand.size ≤ 300) (hn : nameOk r.hand.data.toList = true) (ba off n cap k : Nat) (x : R2) (hl : r.looks = k) (hl2 : k < 14) (hkn : k < n) (hrs : r.reps = .slice (some ⟨ba, off, none⟩) n cap) (_hn14 : n ≤ 14) (hba : ba < w.heap.size)
 (x0 : w.cell? ⟨ba, off + k * 2, none⟩ = some (.int .i64 x.code)) (x1 : w.cell? ⟨ba, off + k * 2 + 1, none⟩ = some (.string x.tx)) :
 Calls Tryz.prog 189 #[.pointer (some ⟨b, 0, none⟩), .bool hs] w fun e w' => e = .returned (.tuple #[.agg #[.int .i64 x.code, .string x.tx], .bool true]) ∧ RunAt w' b (r.looked (k + 1)) ∧ Kp w.heap.size b w w' := by
 have HR : Hid (RunAt w b r) := h
 have c2 : w.cell? ⟨b, 2, none⟩ = some (.string r.hand) := run_cell h 2
 have cx5 : w.cell? ⟨b, 5, none⟩ = some (.int .i64 k) := by rw [← hl]; exact run_cell h 5
 have cx4 : w.cell? ⟨b, 4, none⟩ = some (.slice (some ⟨ba, off, none⟩) n cap) := by rw [run_cell h 4, ← hrs]; rfl
 have f5 := run_free h 5
 have hlt := run_lt h
 have hle : w.heap.size ≤ w.heap.size := Nat.le_refl _
 have HN : Hid (nameOk r.hand.data.toList = true) := hn
 clear h hn
 go_enter Tryz.func189, Tryz.ntmps189
 go_wp2_with fail
 refine (c87 r.hand _ (by omega)).mono ?_
 rintro e w1 ⟨rfl, rfl⟩
 rw [HN.out]
 go_wp2_with fail
 go_region
 go_wp2_with fail
 go_region
 go_wp2
 refine bodyPost_ret (v := .tuple #[.agg #[.int .i64 x.code, .string x.tx], .bool true]) (by simp [results, Tryz.results189, go_sem]) rfl ⟨rfl, ?_, ?_⟩
 · have h1 : RunAt (w.setCell ⟨b, 5, none⟩ (.int .i64 ((k : Int) + 1))) b (r.looked (k + 1)) := run_set HR.out 5 _ rfl
   exact run_below h1 ((((Below.refl _ _).alloc (Nat.le_refl _) _).alloc (by simp) _).drew.drew)
 · exact ((((Kp.refl w.heap.size b w).set 5 _).alloc (by simp) _).alloc (by simp) _).drew.drew
end Go.Proofs.YtpjpckmfehfniaaGreatDoor
namespace Go.Proofs.YtpjpckmfehfniaaGreatDoor
open Go.RowKit
def met (b : Nat) (f : Nat) : Value := .func (.func f) #[.pointer (some ⟨b, 0, none⟩)] #[]
set_option maxHeartbeats 2000000 in
set_option maxRecDepth 100000 in
theorem c132 (b : Nat) (w : World) :
 Calls Tryz.prog 132 #[.pointer (some ⟨b, 0, none⟩)] w fun e w' => e = .returned (.agg #[.nilFunc, met b 154, met b 155, met b 156, met b 157, met b 158, met b 159, met b 160, met b 161, met b 162, met b 163, met b 164]) ∧ Below w.heap.size w w' := by
 have hsn : ∀ (w : World) (a : Addr) (m : Mode), (store a .nilFunc m).run Tryz.prog w = stored Tryz.prog w a .nilFunc m := fun w a m => run_store _ _ _ _ _ rfl
 have hsf : ∀ (w : World) (a : Addr) (f : Fn) (x y : Array Value) (m : Mode), (store a (.func f x y) m).run Tryz.prog w = stored Tryz.prog w a (.func f x y) m := fun w a f x y m => run_store _ _ _ _ _ rfl
 go_enter Tryz.func132, Tryz.ntmps132
 go_wp2
 refine bodyPost_ret (v := .agg #[.nilFunc, met b 154, met b 155, met b 156, met b 157, met b 158, met b 159, met b 160, met b 161, met b 162, met b 163, met b 164]) (by simp [results, Tryz.results132, go_sem, met]) rfl ⟨rfl, (Below.refl _ _).alloc (Nat.le_refl _) _⟩
end Go.Proofs.YtpjpckmfehfniaaGreatDoor
namespace Go.Proofs.YtpjpckmfehfniaaGreatDoor
open Go.RowKit
theorem step_app {P : Program} {ops : Array Oper} {o : Oper} {a : Act} {w : World} {K : Act → World → Prop} {Q : Exit → Act → World → Prop} {E : Prop}
 (hg : o.guard = none) (s x : Operand) (t : TypeId) (hop : o.op = Op.call { callee := Callee.builtin Builtin.append, args := #[s, x], argTypes := #[t, t] })
 (base : Nat) (e : TypeId) (i : TypeInfo) (z : Value) (size bytes : Nat) (h1 : P.underlying t = some (.slice e)) (h2 : P.info? e = some i) (h3 : i.zero = some z) (h4 : i.size = size) (h5 : i.bytes = bytes) (h6 : z.cells.size = size) (h7 : 0 < size)
 (v : Value) (n : Nat) (xs : List Value) (hs : a.eval s = v) (hown : w.ownsRow base e size v n xs)
 (ad : Addr) (m c : Nat) (news : List Value) (hx : a.eval x = .slice (some ad) m c) (hn : news.length = m * size) (hc : ∀ j u, news[j]? = some u → w.cell? (ad.add j) = some u) (h1c : ∀ u ∈ news, u.oneCell' = true)
 (b1 : n + m ≤ maxLen) (b2 : (n + m) * bytes ≤ 140737488355328) (hb : base ≤ w.heap.size)
 (hK : ∀ v' w', w'.ownsRow base e size v' (n + m) (xs ++ news) → w.grownBy w' v.ownBlock → K (a.put o.dst v') w') :
 if Region.wanted o (yielded ops a.tmps) = true then Oper.wp P o a w K Q else E := by
 have hw : Region.wanted o (yielded ops a.tmps) = true := by simp [Region.wanted, hg]
 rw [if_pos hw]
 obtain ⟨v', w', hrun, r1, r2, _⟩ := run_append_own (P := P) w base t o.type e i z size bytes h1 h2 h3 h4 h5 h6 h7 v n xs hown ad m c news hn hc h1c b1 b2 hb
 unfold Oper.wp
 simp [execOp, hop, resolve, invoke, builtin, hs, hx, hrun, Result.andThen]
 exact hK v' w' r1 r2
theorem conv_own {w : World} {base : Nat} {v : Value} {n : Nat} {l : List UInt8} (h : w.ownsRow base 5 1 v n (Lib.byteCells l)) (hn : 0 < n) : (convert 60 9 v).run Tryz.prog w = .ok (.string ⟨l.toArray⟩) w := by
 have h' := h
 obtain ⟨h1, h2⟩ := h
 rcases h2 with ⟨_, h0⟩ | ⟨g, cp, cur, rfl, hg, hh, _⟩
 · omega
 · have hl : l.length = n := by rw [cells_len] at h1; omega
   have := run_convert_bytes_arg (P := Tryz.prog) w 60 5 Tryz.underlying60 Tryz.underlying5 g 0 n cp (l.map fun b => (b.toNat : Int)) (by simpa using hl) (fun i hi => by
    rw [Nat.zero_add, h'.cellAt i (by omega)]
    have hi' : i < l.length := by omega
    simp [Lib.byteCells, hi']) 9 Tryz.underlying9
   rw [this]
   have e : l.map ((fun n : Int => UInt8.ofNat n.toNat) ∘ fun b => (b.toNat : Int)) = l := (List.map_congr_left (fun b _ => by simp)).trans (List.map_id l)
   simp only [strOfNums, List.map_map, e]
theorem notPlain {c : UInt8} (h : ¬ plainB c = true) : (c.toNat : Int) < 32 ∨ 126 < (c.toNat : Int) ∨ ((32 : Int) ≤ (c.toNat : Int) ∧ (c.toNat : Int) ≤ 126 ∧ ((c.toNat : Int) != 34) = false) ∨ ((32 : Int) ≤ (c.toNat : Int) ∧ (c.toNat : Int) ≤ 126 ∧ ((c.toNat : Int) != 34) = true ∧ ((c.toNat : Int) != 92) = false) := by
 unfold plainB at h
 simp only [Bool.and_eq_true, decide_eq_true_eq, Bool.not_eq_true', beq_eq_false_iff_ne] at h
 simp only [bne_eq_false_iff_eq, bne_iff_ne]
 omega
theorem wrap_div (c : UInt8) : IntKind.u8.wrap ((c.toNat : Int) / 16) = (c.toNat : Int) / 16 := by
 have := c.toNat_lt
 simp [IntKind.wrap, IntKind.signed, IntKind.bits]; omega
theorem row3 (w : World) (x y z : Value) (t : TypeId) : ∀ j u, [x, y, z][j]? = some u → (w.alloc (.cells #[x, y, z] t)).drew.cell? ((⟨w.heap.size, 0, none⟩ : Addr).add j) = some u := by
 intro j u h
 match j, h with
 | 0, h => simp at h; subst h; simp [Addr.add]
 | 1, h => simp at h; subst h; simp [Addr.add]
 | 2, h => simp at h; subst h; simp [Addr.add]
set_option maxHeartbeats 2000000 in
set_option maxRecDepth 100000 in
theorem c111 (s : ByteArray) (w : World) (hs : s.size ≤ 1048700) :
 Calls Tryz.prog 111 #[.string s] w fun e w' => e = .returned (.string ⟨(quoteL s.data.toList).toArray⟩) ∧ Below w.heap.size w w' := by
 obtain ⟨i0, hi, hz0, hz1, hz2⟩ := info_parts info5
 go_enter Tryz.func111, Tryz.ntmps111
 go_wp2_with fail
 go_loopw [3, 5] (fun v i wr => ∃ (k : Nat), k ≤ s.size ∧ i = .int .i64 k ∧ wr.ownsRow w.heap.size 5 1 v (34 :: (s.data.toList.take k).flatMap qb).length (Lib.byteCells (34 :: (s.data.toList.take k).flatMap qb)) ∧ Below w.heap.size w wr ∧ w.heap.size + 1 ≤ wr.heap.size) (fun _ i _ => s.size - (intOf i).toNat)
 case atStart => exact ⟨0, Nat.zero_le _, rfl, World.ownsRow_lit _ #[.int .u8 34] 1 (Nat.le_refl _) (by unfold maxLen; omega) rfl, (Below.refl _ _).alloc (Nat.le_refl _) _, by simp⟩
 case round =>
  obtain ⟨k, hk, rfl, hown, hb, hz⟩ := hrel
  have hL : (34 :: (s.data.toList.take k).flatMap qb : List UInt8).length ≤ 3 * k + 1 := by
   have := flat_len (s.data.toList.take k)
   have h2 : (s.data.toList.take k).length ≤ k := List.length_take_le _ _
   rw [List.length_cons]; omega
  by_cases hlt : k < s.size
  · have HS : Hid (34 :: (s.data.toList.take (k + 1)).flatMap qb = (34 :: (s.data.toList.take k).flatMap qb) ++ qb s[k]) := by rw [take_snoc s k hlt]; simp [Hid]
    generalize hl : (34 :: (s.data.toList.take k).flatMap qb : List UInt8) = l at *
    clear hl
    have hby : (s[k].toNat : Int) < 256 := by have := s[k].toNat_lt; omega
    by_cases hp : plainB s[k] = true
    · have HQ : Hid (qb s[k] = [s[k]]) := by unfold qb; rw [if_pos hp]; rfl
      unfold plainB at hp
      simp only [Bool.and_eq_true, decide_eq_true_eq, Bool.not_eq_true', beq_eq_false_iff_ne] at hp
      obtain ⟨⟨⟨p1, p2⟩, p3⟩, p4⟩ := hp
      have q3 : ((s[k].toNat : Int) != 34) = true := by simpa using p3
      have q4 : ((s[k].toNat : Int) != 92) = true := by simpa using p4
      go_wp2_with (at_builtin; refine wpList_append_own _ rfl _ _ 60 rfl w.heap.size 5 i0 (.int .u8 0) 1 1 Tryz.underlying60 hi hz0 hz1 hz2 rfl (by decide) _ _ _ rfl (hown.alloc _) ⟨wr.heap.size, 0, none⟩ 1 1 [_] rfl rfl (cell_one_new _ _ _) (by intro u hu; simp at hu; subst hu; rfl) (by unfold maxLen; omega) (by omega) (by simp; omega) ?_; intro v' w2 hown' hgrow _)
      go_roundw
      case rel =>
       have hB2 : Below w.heap.size w w2 := (hb.alloc hb.size _).grown hgrow (by simp; omega) (fun j hj => (hown.lt j hj).1)
       refine ⟨k + 1, by omega, by go_num, ?_, hB2, by have := hgrow.size; simp at this; omega⟩
       rw [HS.out, HQ.out, cells_snoc, List.length_append]
       exact hown'
      case measure => simp [intOf]; omega
    · have HQ : Hid (qb s[k] = [92, hexL.getD (s[k].toNat / 16) 0, hexL.getD (s[k].toNat % 16) 0]) := by unfold qb; rw [if_neg hp]; rfl
      have hnp := notPlain hp
      have k1 : IntKind.u8.wrap ((s[k].toNat : Int) / 16) < 16 := by rw [wrap_div s[k]]; omega
      have k2 : 0 ≤ (s[k].toNat : Int).tmod 16 := by rw [Int.tmod_eq_emod_of_nonneg (by omega)]; omega
      have k3 : (s[k].toNat : Int).tmod 16 < 16 := by rw [Int.tmod_eq_emod_of_nonneg (by omega)]; omega
      clear hp
      have e1 : ∀ h1 : (IntKind.u8.wrap ((s[k].toNat : Int) / 16)).toNat < hexA.size, hexA[(IntKind.u8.wrap ((s[k].toNat : Int) / 16)).toNat]'h1 = hexL.getD (s[k].toNat / 16) 0 := fun h1 => by
       rw [hex_get]; congr 1; rw [wrap_div]; omega
      have e2 : ∀ h1 : ((s[k].toNat : Int).tmod 16).toNat < hexA.size, hexA[((s[k].toNat : Int).tmod 16).toNat]'h1 = hexL.getD (s[k].toNat % 16) 0 := fun h1 => by
       rw [hex_get]; congr 1
      have E1 : Hid (∀ h1 : (IntKind.u8.wrap ((s[k].toNat : Int) / 16)).toNat < hexA.size, hexA[(IntKind.u8.wrap ((s[k].toNat : Int) / 16)).toNat]'h1 = hexL.getD (s[k].toNat / 16) 0) := e1
      have E2 : Hid (∀ h1 : ((s[k].toNat : Int).tmod 16).toNat < hexA.size, hexA[((s[k].toNat : Int).tmod 16).toNat]'h1 = hexL.getD (s[k].toNat % 16) 0) := e2
      clear e1 e2
      rcases hnp with h | h | ⟨h, h', h''⟩ | ⟨h, h', h'', h3⟩
      all_goals
       go_wp2_with fail
       go_region_law (refine step_app rfl (.tmp 41) (.tmp 54) 60 rfl w.heap.size 5 i0 (.int .u8 0) 1 1 Tryz.underlying60 hi hz0 hz1 hz2 rfl (by decide) _ _ _ rfl ((hown.alloc _).drew) ⟨wr.heap.size, 0, none⟩ 3 3 [_, _, _] rfl rfl (row3 _ _ _ _ _) (by intro u hu; simp at hu; rcases hu with rfl | rfl | rfl <;> rfl) (by unfold maxLen; omega) (by omega) (by simp; omega) ?_; intro v' w2 hown' hgrow)
       all_goals go_wp2
       all_goals go_roundw
       all_goals first
        | (refine ⟨k + 1, by omega, by go_num, ?_, ((hb.alloc hb.size _).drew).grown hgrow (by simp; omega) (fun j hj => (hown.lt j hj).1), by have := hgrow.size; simp at this; omega⟩; rw [HS.out, HQ.out, cells_snoc, List.length_append]; have hq := hown'; rw [show Lib.byteCells [92, hexL.getD (s[k].toNat / 16) 0, hexL.getD (s[k].toNat % 16) 0] = [.int .u8 92, .int .u8 (hexA[(IntKind.u8.wrap ((s[k].toNat : Int) / 16)).toNat]'(by show _ < 16; omega)).toNat, .int .u8 (hexA[((s[k].toNat : Int).tmod 16).toNat]'(by show _ < 16; omega)).toNat] by rw [E1.out, E2.out]; rfl]; exact hq)
        | (simp [intOf]; omega)
  · have HT : Hid (quoteL s.data.toList = (34 :: (s.data.toList.take k).flatMap qb) ++ [34]) := by rw [List.take_of_length_le (by simp; omega)]; rfl
    generalize hl : (34 :: (s.data.toList.take k).flatMap qb : List UInt8) = l at *
    clear hl
    go_wp2_with (at_builtin; refine wpList_append_own _ rfl _ _ 60 rfl w.heap.size 5 i0 (.int .u8 0) 1 1 Tryz.underlying60 hi hz0 hz1 hz2 rfl (by decide) _ _ _ rfl (hown.alloc _) ⟨wr.heap.size, 0, none⟩ 1 1 [_] rfl rfl (cell_one_new _ _ _) (by intro u hu; simp at hu; subst hu; rfl) (by unfold maxLen; omega) (by omega) (by simp; omega) ?_; intro v' w2 hown' hgrow _; have hcv := conv_own (l := l ++ [34]) (by rw [cells_snoc]; exact hown') (by omega))
    go_ret
    have hB2 : Below w.heap.size w w2 := (hb.alloc hb.size _).grown hgrow (by simp; omega) (fun j hj => (hown.lt j hj).1)
    exact ⟨by rw [HT.out]; rfl, hB2⟩
end Go.Proofs.YtpjpckmfehfniaaGreatDoor
namespace Go.Proofs.YtpjpckmfehfniaaGreatDoor
open Go.RowKit
def toL (x : I3) : List UInt8 := if usesTo x.op = true then 32 :: Lib.decDigits x.to.toNat else []
def txL (x : I3) : List UInt8 := if usesTx x.op = true then 32 :: quoteL x.tx.data.toList else []
def lineL (x : I3) : List UInt8 := word x.op ++ toL x ++ txL x ++ [10]
theorem decLen (n : Nat) (h : n < 100) : (Lib.decDigits n).length ≤ 2 := by
 by_cases h10 : n < 10
 · rw [dec_small n h10]; simp
 · rw [dec_two n h10, dec_small (n / 10) (by omega)]; simp
theorem line_len {x : I3} (h : okI x = true) : (word x.op).length ≤ 4 ∧ (toL x).length ≤ 3 ∧ (txL x).length ≤ 903 ∧ (lineL x).length ≤ 911 := by
 obtain ⟨h1, _, _, h4, h5, h6⟩ := okI_bad h
 have a := (word_in x.op h1).2
 have b : (toL x).length ≤ 3 := by
  unfold toL; split
  · have := decLen x.to.toNat (by omega); simp; omega
  · simp
 have c : (txL x).length ≤ 903 := by
  unfold txL; split
  · have := quote_len x.tx.data.toList
    have e : x.tx.data.toList.length = x.tx.size := by simp
    simp; omega
  · simp
 refine ⟨a, b, c, ?_⟩
 unfold lineL; simp only [List.length_append, List.length_cons, List.length_nil]; omega
theorem cat_ofL (a b : List UInt8) : ofL a ++ ofL b = ofL (a ++ b) := by apply ByteArray.ext; simp [ofL]
theorem one_ofL (c : UInt8) : (⟨#[c]⟩ : ByteArray) = ofL [c] := rfl
theorem wordA_ofL (op : Int) : wordA op = ofL (word op) := rfl
theorem c111' (s : ByteArray) (w : World) (hs : s.size ≤ 1048700) :
 Calls Tryz.prog 111 #[.string s] w fun e w' => e = .returned (.string (ofL (quoteL s.data.toList))) ∧ Below w.heap.size w w' := c111 s w hs
def formL (is : List I3) : List UInt8 := if okT is = true ∧ (is.flatMap lineL).length ≤ 300 then is.flatMap lineL else []
theorem lines_len (is : List I3) (h : is.all okI = true) : (is.flatMap lineL).length ≤ 911 * is.length := by
 induction is with
 | nil => simp
 | cons x r ih =>
   simp only [List.all_cons, Bool.and_eq_true] at h
   have := ih h.2
   have h4 := (line_len h.1).2.2.2
   simp only [List.flatMap_cons, List.length_append, List.length_cons]; omega
theorem okT_facts {is : List I3} (h : okT is = true) : (1 ≤ is.length ∧ is.length ≤ 40) ∧ is.all okI = true := by
 unfold okT at h
 simp only [Bool.and_eq_true, decide_eq_true_eq] at h
 exact h
theorem take_all {is : List I3} (h : is.all okI = true) (k : Nat) : (is.take k).all okI = true := by
 rw [List.all_eq_true] at h ⊢
 exact fun x hx => h x (List.mem_of_mem_take hx)
theorem get_ok {is : List I3} (h : is.all okI = true) {k : Nat} (hk : k < is.length) : okI (is.getD k i3z) = true := by
 have e : is.getD k i3z = is[k] := by simp [hk]
 rw [e]; rw [List.all_eq_true] at h
 exact h _ (List.getElem_mem hk)
theorem flat_snoc {is : List I3} {k : Nat} (hk : k < is.length) : (is.take (k + 1)).flatMap lineL = (is.take k).flatMap lineL ++ lineL (is.getD k i3z) := by
 have e : is.getD k i3z = is[k] := by simp [hk]
 rw [List.take_succ_eq_append_getElem hk, List.flatMap_append, e]; simp
end Go.Proofs.YtpjpckmfehfniaaGreatDoor
namespace Go.Proofs.YtpjpckmfehfniaaGreatDoor
open Go.RowKit
theorem plain_iff (c : UInt8) : plainB c = true ↔ 32 ≤ c.toNat ∧ c.toNat ≤ 126 ∧ c.toNat ≠ 34 ∧ c.toNat ≠ 92 := by
 unfold plainB
 simp only [Bool.and_eq_true, decide_eq_true_eq, Bool.not_eq_true', beq_eq_false_iff_ne]
 omega
theorem hexL_inj : ∀ a b : Fin 16, hexL.getD a.val 0 = hexL.getD b.val 0 → a = b := by decide
theorem hexL_eq {a b : Nat} (ha : a < 16) (hb : b < 16) (h : hexL.getD a 0 = hexL.getD b 0) : a = b := by
 have := hexL_inj ⟨a, ha⟩ ⟨b, hb⟩ h
 exact Fin.mk.inj this
theorem u8_lt (c : UInt8) : c.toNat < 256 := c.toNat_lt
theorem qb_plain {c : UInt8} (h : plainB c = true) : qb c = [c] := by unfold qb; rw [if_pos h]
theorem qb_not {c : UInt8} (h : plainB c = false) : qb c = [92, hexL.getD (c.toNat / 16) 0, hexL.getD (c.toNat % 16) 0] := by unfold qb; rw [if_neg (by simp [h])]
theorem plain_92 : plainB 92 = false := by decide
theorem qb_ne (c : UInt8) : qb c ≠ [] := by
 cases h : plainB c
 · rw [qb_not h]; simp
 · rw [qb_plain h]; simp
theorem qb_pre {c d : UInt8} {r q : List UInt8} (h : qb c ++ r = qb d ++ q) : c = d ∧ r = q := by
 cases hc : plainB c <;> cases hd : plainB d
 · rw [qb_not hc, qb_not hd] at h
   simp only [List.cons_append, List.nil_append, List.cons.injEq, true_and] at h
   obtain ⟨h1, h2, h3⟩ := h
   have lc := u8_lt c
   have ld := u8_lt d
   have e1 := hexL_eq (by omega) (by omega) h1
   have e2 := hexL_eq (by omega) (by omega) h2
   exact ⟨UInt8.toNat_inj.1 (by omega), h3⟩
 · rw [qb_not hc, qb_plain hd] at h
   simp only [List.cons_append, List.nil_append, List.cons.injEq] at h
   rw [← h.1, plain_92] at hd; cases hd
 · rw [qb_plain hc, qb_not hd] at h
   simp only [List.cons_append, List.nil_append, List.cons.injEq] at h
   rw [h.1, plain_92] at hc; cases hc
 · rw [qb_plain hc, qb_plain hd] at h
   simpa using h
theorem flat_pre {t l R : List UInt8} (h : t.flatMap qb ++ R = l.flatMap qb) : ∃ r, R = r.flatMap qb ∧ l = t ++ r := by
 induction t generalizing l with
 | nil => exact ⟨l, by simpa using h, rfl⟩
 | cons c t ih =>
   cases l with
   | nil =>
     have := qb_ne c
     simp at h
     exact absurd h.1 this
   | cons d l =>
     simp only [List.flatMap_cons, List.append_assoc] at h
     obtain ⟨rfl, h2⟩ := qb_pre h
     obtain ⟨r, hr, hl⟩ := ih h2
     exact ⟨r, hr, by rw [hl]; rfl⟩
theorem flat_inj {t l : List UInt8} (h : t.flatMap qb = l.flatMap qb) : t = l := by
 obtain ⟨r, hr, hl⟩ := flat_pre (t := t) (l := l) (R := []) (by simpa using h)
 cases r with
 | nil => simpa using hl.symm
 | cons c r =>
   have := qb_ne c
   simp at hr
   exact absurd hr.1 this
theorem quoteL_inj {t l : List UInt8} (h : quoteL t = quoteL l) : t = l := by
 unfold quoteL at h
 simp only [List.cons.injEq, true_and, List.append_cancel_right_eq] at h
 exact flat_inj h
theorem flat_ge (l : List UInt8) : l.length ≤ (l.flatMap qb).length := by
 induction l with
 | nil => simp
 | cons c l ih =>
   have : 1 ≤ (qb c).length := List.length_pos_iff.2 (qb_ne c)
   simp only [List.flatMap_cons, List.length_append, List.length_cons]; omega
theorem quote_ge (l : List UInt8) : l.length + 2 ≤ (quoteL l).length := by
 have := flat_ge l
 unfold quoteL; simp only [List.length_cons, List.length_append, List.length_nil]; omega
theorem hexL_no10 : ∀ a : Fin 16, hexL.getD a.val 0 ≠ 10 ∧ hexL.getD a.val 0 ≠ 32 := by decide
theorem qb_no10 (c : UInt8) : (10 : UInt8) ∉ qb c := by
 cases h : plainB c
 · rw [qb_not h]
   have lc := u8_lt c
   have h1 := (hexL_no10 ⟨c.toNat / 16, by omega⟩).1
   have h2 := (hexL_no10 ⟨c.toNat % 16, by omega⟩).1
   simp only [List.mem_cons, List.not_mem_nil, or_false, not_or]
   exact ⟨by decide, fun e => h1 e.symm, fun e => h2 e.symm⟩
 · rw [qb_plain h]
   have := (plain_iff c).1 h
   simp only [List.mem_cons, List.not_mem_nil, or_false]
   intro e; rw [← e] at this; simp at this
theorem quote_no10 (l : List UInt8) : (10 : UInt8) ∉ quoteL l := by
 unfold quoteL
 simp only [List.mem_cons, List.mem_append, List.mem_flatMap, List.not_mem_nil, or_false, not_or]
 refine ⟨by decide, fun ⟨c, _, h⟩ => qb_no10 c h, by decide⟩
end Go.Proofs.YtpjpckmfehfniaaGreatDoor
