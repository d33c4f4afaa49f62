import Derived.Test.YtdcgjdgpiogdaaaGreatDoorRO
namespace Go.Proofs.YtdcgjdgpiogdaaaGreatDoor
open Go.RowKit
/-- A mail read: what it is. -/
def IsMl (l : List UInt8) (w w' : World) (e : Ending) : Prop := ∃ (x : G16) (ok : Bool) (ai : Option Addr) (ci : Nat), e = .returned (.tuple #[.agg (x.c ai ci).toArray, .bool ok]) ∧ RdMail l x ok ∧ (ok = false → x = g16z ∧ ai = none ∧ ci = 0) ∧ x.le 1048576 ∧ LkOwn w' w.heap.size ai x.ls
theorem g16z_le : g16z.le 1048576 := ⟨⟨Nat.zero_le _, Nat.zero_le _, Nat.zero_le _⟩, ⟨Nat.zero_le _, fun _ => ⟨Nat.zero_le _, Nat.zero_le _⟩⟩, ⟨Nat.zero_le _, Nat.zero_le _⟩⟩
theorem isMl_no {l : List UInt8} (h : RdMail l g16z false) (w w' : World) : IsMl l w w' (.returned (.tuple #[.agg zG.toArray, .bool false])) :=
  ⟨g16z, false, none, 0, rfl, h, (fun _ => ⟨rfl, rfl, rfl⟩), g16z_le, .inl rfl, .inl rfl⟩
theorem finM_no {w u : World} {a : Act} {l : List UInt8} (hn : RdMail l g16z false) (h4 : a.tmps.getD 2 undef = .pointer (some ⟨w.heap.size, 0, none⟩)) (h5 : a.tmps.getD 3 undef = .bool false) (hd : a.defers = []) (hA : BlkAt u w.heap.size zG) (hb : Below w.heap.size w u) :
    bodyPost Tryz.prog Tryz.f51 (fun e w' => IsMl l w w' e ∧ Below w.heap.size w w') .ret a (fill u w.heap.size 0 zG) := by
  have FF := BlkAt.fill (B := w.heap.size) zG [] zG [] 0 hA rfl rfl
  exact bodyPost_ret (v := .tuple #[.agg zG.toArray, .bool false]) (results_blk2 Tryz.results51 _ _ w.heap.size _ _ _ h4 h5 FF Tryz.underlying41 rfl (by kernel_rfl)) hd ⟨isMl_no hn _ _, below_fill (Nat.le_refl _) _ 0 hb⟩
theorem finM_yes {w u : World} {a : Act} {l : List UInt8} (x : G16) (ai : Option Addr) (ci : Nat) (hn : RdMail l x true) (hx : x.le 1048576) (hlk : LkOwn u (w.heap.size + 1) ai x.ls) (h4 : a.tmps.getD 2 undef = .pointer (some ⟨w.heap.size, 0, none⟩)) (h5 : a.tmps.getD 3 undef = .bool true) (hd : a.defers = []) (hA : BlkAt u w.heap.size zG) (hb : Below w.heap.size w u) :
    bodyPost Tryz.prog Tryz.f51 (fun e w' => IsMl l w w' e ∧ Below w.heap.size w w') .ret a (fill u w.heap.size 0 (x.c ai ci)) := by
  have FF := BlkAt.fill (B := w.heap.size) (x.c ai ci) [] zG [] 0 hA rfl rfl
  have hl := lkown_fill w.heap.size (x.c ai ci) (by omega) 0 hlk
  exact bodyPost_ret (v := .tuple #[.agg (x.c ai ci).toArray, .bool true]) (results_blk2 Tryz.results51 _ _ w.heap.size _ _ _ h4 h5 FF Tryz.underlying41 rfl (by kernel_rfl)) hd ⟨⟨x, true, ai, ci, rfl, hn, (fun h => by cases h), hx, hl.mono (by omega)⟩, below_fill (Nat.le_refl _) _ 0 hb⟩
theorem c76v (x : G16) (ai : Option Addr) (ci : Nat) (w : World) (hk : x.kd = 1) (hs : x.le 1048576) (hat : LksAt w ai x.ls) : Calls Tryz.prog 76 #[.agg (x.c ai ci).toArray] w fun e w' => IsB (OfferOk x) e ∧ Below w.heap.size w w' := by
  unfold G16.c; rw [hk]; exact c76 x ai ci w hs hat
theorem c79v (x : G16) (ai : Option Addr) (ci : Nat) (w : World) (hk : x.kd = 2) (hs : x.le 1048576) (_hat : LksAt w ai x.ls) : Calls Tryz.prog 79 #[.agg (x.c ai ci).toArray] w fun e w' => IsB (TurnOkM x) e ∧ Below w.heap.size w w' := by
  unfold G16.c; rw [hk]; exact c79 x ai ci w hs
theorem c82v (x : G16) (ai : Option Addr) (ci : Nat) (w : World) (hk : x.kd = 3) (hs : x.le 1048576) (_hat : LksAt w ai x.ls) : Calls Tryz.prog 82 #[.agg (x.c ai ci).toArray] w fun e w' => IsB (HereOk x) e ∧ Below w.heap.size w w' := by
  unfold G16.c; rw [hk]; exact c82 x ai ci w hs.2.1.1
theorem c84v (f : List UInt8) (b : List (List UInt8)) (g o cp : Nat) (w : World) (hs : f.length ≤ 16000) (_hmx : MaxAt w) (hb : b.length ≤ 16001) (_hln : LinesIn w g o b) (_hbs : ∀ i, i < b.length → (b.getD i []).length ≤ 16000) :
    Calls Tryz.prog 84 #[.string (ofL f), .slice (some ⟨g, o, none⟩) b.length cp] w fun e w' => IsRd 3 f b w w' e ∧ Below w.heap.size w w' := c84 f b g o cp w hs hb
theorem load_ex {P : Program} {w : World} {ty : TypeId} {ad : Addr} {v : Value} (h : (loadVar ty ad).run P w = .ok v w) : ((Sem.run P (Instr.loadAt ty (.pointer (some ad))) w).andThen fun a w' => Result.ok (Next.value a) w') = .ok (.value v) w := by
  simp only [Instr.loadAt, Instr.sureAddr, Sem.run_bind, Sem.run_pure, Result.andThen_ok, h]
/-- The ways of messages, as they lie. -/
def wayL : List Value := [.string ⟨#[]⟩, .nilFunc, .nilFunc, .nilFunc, .string ⟨#[111, 102, 102, 101, 114]⟩, .func (.func 76) #[] #[], .func (.func 77) #[] #[], .func (.func 78) #[] #[], .string ⟨#[116, 117, 114, 110]⟩, .func (.func 79) #[] #[], .func (.func 80) #[] #[], .func (.func 81) #[] #[], .string ⟨#[104, 101, 114, 101]⟩, .func (.func 82) #[] #[], .func (.func 83) #[] #[], .func (.func 84) #[] #[]]
set_option maxHeartbeats 16000000 in
set_option maxRecDepth 100000 in
theorem c51 (s : ByteArray) (w : World) (hs : s.size ≤ 16000) (hmx : MaxAt w) :
    Calls Tryz.prog 51 #[.string s] w fun e w' => IsMl s.data.toList w w' e ∧ Below w.heap.size w w' := by
  have hsf : ∀ (w : World) (a : Addr) (f : Fn) (x y : Array Value) (m : Mode), (store a (.func f x y) m).run Tryz.prog w = stored Tryz.prog w a (.func f x y) m := fun w a f x y m => run_store _ _ _ _ _ rfl
  have hsn : ∀ (w : World) (a : Addr) (m : Mode), (store a .nilFunc m).run Tryz.prog w = stored Tryz.prog w a .nilFunc m := fun w a m => run_store _ _ _ _ _ rfl
  have hB0 : Below w.heap.size w (w.alloc (.cells zG.toArray 41)) := (Below.refl _ _).alloc (Nat.le_refl _) _
  go_enter Tryz.func51, Tryz.ntmps51
  go_wp2_with fail
  refine (c89 s _ (by omega) (max_below hmx hB0)).mono ?_
  rintro e w1 ⟨hr, hb1⟩
  have hx1 : Below (w.heap.size + 1) (w.alloc (.cells zG.toArray 41)) w1 := hb1.mono (by simp)
  have hz1 : (w.alloc (.cells zG.toArray 41)).heap.size = w.heap.size + 1 := by simp
  clear hb1
  obtain ⟨bA, oA⟩ := blk_keep (vs := zG) hx1
  have hB1 : Below w.heap.size w w1 := hB0.trans (hx1.mono (by omega))
  have hS := blk_some bA zG rfl
  rcases hr with ⟨hen, rfl⟩ | ⟨hen, g, rfl, hg0, hln⟩
  · have HN : Hid (RdMail s.data.toList g16z false) := rdMail_end hen _
    clear hen
    go_wp2_with (refine wpList_store_blk rfl 41 (.tmp 2) (.tmp 20) rfl w.heap.size 0 rfl zG rfl hS oA (by simp [zG, Value.oneCell']) (by kernel_rfl) rfl ?_)
    exact finM_no HN.out rfl rfl rfl bA hB1
  · have hm1 : MaxAt w1 := max_below hmx hB1
    have hcl := cut_len 10 s.data.toList.dropLast
    have hsl : s.data.toList.length = s.size := by simp
    have hdl : s.data.toList.dropLast.length ≤ 16000 := by rw [List.length_dropLast]; omega
    obtain ⟨f, b, hfb0⟩ : ∃ f b, cutS 10 s.data.toList.dropLast = f :: b := by
      cases h : cutS 10 s.data.toList.dropLast with
      | nil => rw [h] at hcl; simp at hcl
      | cons f b => exact ⟨f, b, rfl⟩
    have hfs : f.length ≤ 16000 := by
      have h := cut_small 10 s.data.toList.dropLast 0
      rw [hfb0] at h
      exact Nat.le_trans h hdl
    have HBS : Hid (∀ i, i < b.length → (b.getD i []).length ≤ 16000) := fun i _ => by
      have h := cut_small 10 s.data.toList.dropLast (i + 1)
      rw [hfb0] at h
      exact Nat.le_trans h hdl
    rw [hfb0] at hln hcl ⊢
    have hbl : b.length ≤ 16001 := by simp at hcl; omega
    have hfb : Hid (cutS 10 s.data.toList.dropLast = f :: b) := hfb0
    have hen : Hid (endN s.data.toList = true) := hen
    have c0 : w1.cell? ⟨g, 0, none⟩ = some (.string (ofL f)) := hln.2 0 (by simp)
    have hg1 := hln.1
    have hlnb : LinesIn w1 g 1 b := ⟨hln.1, fun i hi => by
      have h := hln.2 (i + 1) (by simp; omega)
      rw [Nat.add_comm 1 i, h]
      rfl⟩
    have hrs : (restOf f).length ≤ 16000 := by have := (rest_small f).2; omega
    clear hln hcl hfb0 hsl hdl
    simp only [List.length_cons]
    go_wp2_with fail
    refine (c90w f _ (by omega) hm1).mono ?_
    rintro e w2 ⟨⟨y, rfl⟩, hb2⟩
    go_wp2_with fail
    refine (c40 _).mono ?_
    rintro e w3 ⟨rfl, hb3⟩
    have hbb : Below w1.heap.size w1 w3 := hb2.trans (hb3.mono hb2.size)
    have hx3 := hx1.trans (hbb.mono (by have h := hx1.size; simp at h; omega))
    have hln3 := linesIn_below hlnb hbb
    have hB3 : Below w.heap.size w w3 := hB0.trans (hx3.mono (by omega))
    have hR3 : w.heap.size < w3.heap.size := by have h := hx3.size; simp at h; omega
    clear bA oA hS
    obtain ⟨bA, oA⟩ := blk_keep (vs := zG) hx3
    clear hb2 hb3 hbb hlnb c0
    go_wp2_with fail
    have hbW : Below w3.heap.size w3 (w3.alloc (.cells #[.string ⟨#[]⟩, .nilFunc, .nilFunc, .nilFunc, .string ⟨#[111, 102, 102, 101, 114]⟩, .func (.func 76) #[] #[], .func (.func 77) #[] #[], .func (.func 78) #[] #[], .string ⟨#[116, 117, 114, 110]⟩, .func (.func 79) #[] #[], .func (.func 80) #[] #[], .func (.func 81) #[] #[], .string ⟨#[104, 101, 114, 101]⟩, .func (.func 82) #[] #[], .func (.func 83) #[] #[], .func (.func 84) #[] #[]] 75)) := (Below.refl _ _).alloc (Nat.le_refl _) _
    have HWA : Hid (BlkAt (w3.alloc (.cells #[.string ⟨#[]⟩, .nilFunc, .nilFunc, .nilFunc, .string ⟨#[111, 102, 102, 101, 114]⟩, .func (.func 76) #[] #[], .func (.func 77) #[] #[], .func (.func 78) #[] #[], .string ⟨#[116, 117, 114, 110]⟩, .func (.func 79) #[] #[], .func (.func 80) #[] #[], .func (.func 81) #[] #[], .string ⟨#[104, 101, 114, 101]⟩, .func (.func 82) #[] #[], .func (.func 83) #[] #[], .func (.func 84) #[] #[]] 75)) w3.heap.size wayL) := blk_new w3 wayL 75
    have HRA : Hid (BlkAt (w3.alloc (.cells #[.string ⟨#[]⟩, .nilFunc, .nilFunc, .nilFunc, .string ⟨#[111, 102, 102, 101, 114]⟩, .func (.func 76) #[] #[], .func (.func 77) #[] #[], .func (.func 78) #[] #[], .string ⟨#[116, 117, 114, 110]⟩, .func (.func 79) #[] #[], .func (.func 80) #[] #[], .func (.func 81) #[] #[], .string ⟨#[104, 101, 114, 101]⟩, .func (.func 82) #[] #[], .func (.func 83) #[] #[], .func (.func 84) #[] #[]] 75)) w.heap.size zG) := bA.below hbW hR3
    have HOA : Hid (OpnAt (w3.alloc (.cells #[.string ⟨#[]⟩, .nilFunc, .nilFunc, .nilFunc, .string ⟨#[111, 102, 102, 101, 114]⟩, .func (.func 76) #[] #[], .func (.func 77) #[] #[], .func (.func 78) #[] #[], .string ⟨#[116, 117, 114, 110]⟩, .func (.func 79) #[] #[], .func (.func 80) #[] #[], .func (.func 81) #[] #[], .string ⟨#[104, 101, 114, 101]⟩, .func (.func 82) #[] #[], .func (.func 83) #[] #[], .func (.func 84) #[] #[]] 75)) w.heap.size) := oA.below hbW hR3
    have hBw0 : Below w.heap.size w (w3.alloc (.cells #[.string ⟨#[]⟩, .nilFunc, .nilFunc, .nilFunc, .string ⟨#[111, 102, 102, 101, 114]⟩, .func (.func 76) #[] #[], .func (.func 77) #[] #[], .func (.func 78) #[] #[], .string ⟨#[116, 117, 114, 110]⟩, .func (.func 79) #[] #[], .func (.func 80) #[] #[], .func (.func 81) #[] #[], .string ⟨#[104, 101, 114, 101]⟩, .func (.func 82) #[] #[], .func (.func 83) #[] #[], .func (.func 84) #[] #[]] 75)) := hB3.alloc hB3.size _
    have hln0 : LinesIn (w3.alloc (.cells #[.string ⟨#[]⟩, .nilFunc, .nilFunc, .nilFunc, .string ⟨#[111, 102, 102, 101, 114]⟩, .func (.func 76) #[] #[], .func (.func 77) #[] #[], .func (.func 78) #[] #[], .string ⟨#[116, 117, 114, 110]⟩, .func (.func 79) #[] #[], .func (.func 80) #[] #[], .func (.func 81) #[] #[], .string ⟨#[104, 101, 114, 101]⟩, .func (.func 82) #[] #[], .func (.func 83) #[] #[], .func (.func 84) #[] #[]] 75)) g 1 b := linesIn_below hln3 hbW
    have hm0 : MaxAt (w3.alloc (.cells #[.string ⟨#[]⟩, .nilFunc, .nilFunc, .nilFunc, .string ⟨#[111, 102, 102, 101, 114]⟩, .func (.func 76) #[] #[], .func (.func 77) #[] #[], .func (.func 78) #[] #[], .string ⟨#[116, 117, 114, 110]⟩, .func (.func 79) #[] #[], .func (.func 80) #[] #[], .func (.func 81) #[] #[], .string ⟨#[104, 101, 114, 101]⟩, .func (.func 82) #[] #[], .func (.func 83) #[] #[], .func (.func 84) #[] #[]] 75)) := max_below hmx hBw0
    have hWz : w3.heap.size < (w3.alloc (.cells #[.string ⟨#[]⟩, .nilFunc, .nilFunc, .nilFunc, .string ⟨#[111, 102, 102, 101, 114]⟩, .func (.func 76) #[] #[], .func (.func 77) #[] #[], .func (.func 78) #[] #[], .string ⟨#[116, 117, 114, 110]⟩, .func (.func 79) #[] #[], .func (.func 80) #[] #[], .func (.func 81) #[] #[], .string ⟨#[104, 101, 114, 101]⟩, .func (.func 82) #[] #[], .func (.func 83) #[] #[], .func (.func 84) #[] #[]] 75)).heap.size := by simp
    have hRz0 : w.heap.size < (w3.alloc (.cells #[.string ⟨#[]⟩, .nilFunc, .nilFunc, .nilFunc, .string ⟨#[111, 102, 102, 101, 114]⟩, .func (.func 76) #[] #[], .func (.func 77) #[] #[], .func (.func 78) #[] #[], .string ⟨#[116, 117, 114, 110]⟩, .func (.func 79) #[] #[], .func (.func 80) #[] #[], .func (.func 81) #[] #[], .string ⟨#[104, 101, 114, 101]⟩, .func (.func 82) #[] #[], .func (.func 83) #[] #[], .func (.func 84) #[] #[]] 75)).heap.size := by simp; omega
    clear hbW bA oA hB3 hln3 hx3 hx1 hB1 hm1
    generalize (w3.alloc (.cells #[.string ⟨#[]⟩, .nilFunc, .nilFunc, .nilFunc, .string ⟨#[111, 102, 102, 101, 114]⟩, .func (.func 76) #[] #[], .func (.func 77) #[] #[], .func (.func 78) #[] #[], .string ⟨#[116, 117, 114, 110]⟩, .func (.func 79) #[] #[], .func (.func 80) #[] #[], .func (.func 81) #[] #[], .string ⟨#[104, 101, 114, 101]⟩, .func (.func 82) #[] #[], .func (.func 83) #[] #[], .func (.func 84) #[] #[]] 75)) = W0 at *
    generalize w3.heap.size = Wb at *
    obtain ⟨o1, ho1, hln0⟩ : ∃ o1, (if b = [] then some (⟨g, 0, none⟩ : Addr) else some ⟨g, 1, none⟩) = some ⟨g, o1, none⟩ ∧ LinesIn W0 g o1 b := by
      by_cases hb0 : b = []
      · exact ⟨0, by rw [if_pos hb0], hln0.1, fun i hi => by subst hb0; cases hi⟩
      · exact ⟨1, by rw [if_neg hb0], hln0⟩
    go_loopw [10] (fun i wr => ∃ k : Int, 1 ≤ k ∧ k ≤ 4 ∧ i = .int .i64 k ∧ wr = W0 ∧ Hid (∀ j : Int, 1 ≤ j → j < k → wordOf f ≠ wrdP j)) (fun i _ => 4 - (intOf i).toNat)
    case atStart => exact ⟨1, by omega, by omega, rfl, rfl, fun j h1 h2 => by omega⟩
    case round =>
      obtain ⟨k, hk1, hk4, rfl, hwr, hno⟩ := hrel
      subst wr
      obtain rfl | rfl | rfl | rfl : k = 1 ∨ k = 2 ∨ k = 3 ∨ k = 4 := by omega
      · have hwl := HWA.out 4 _ rfl
        by_cases hw : wordOf f = [111, 102, 102, 101, 114]
        · have hwd : Hid (wordOf f = wrdP 1) := hw
          have hes : ofL (wordOf f) = ⟨#[111, 102, 102, 101, 114]⟩ := by rw [hw]; rfl
          rw [hes]
          clear hw hes
          go_wp2_with fail
          refine wp_region_held_drew (S := (fun u => u.cell? ⟨Wb, 7, none⟩ = some (.func (.func 78) #[] #[]))) (by kernel_rfl) ?_ (fun hHeld => ?_)
          · exact HWA.out 7 _ rfl
          refine wpAnyH_take (i := 0) (oi := { dst := some 41, op := Op.move (Operand.tmp 10), type := 3, pos := "l7_mail.go:98", after := #[], guard := none }) (v := ?_) rfl (by kernel_rfl) (by kernel_rfl) (by kernel_rfl) (fun _ _ _ h => h) (Or.inl ⟨by rfl, ?_⟩) (by assumption) ?_
          rotate_left
          · intro wq hSw
            (try dsimp only at hSw)
            go_simp
            try with_reducible rfl
          try simp only [Act.put, List.setIfInBounds_toArray, List.set_cons_zero, List.set_cons_succ]
          refine wpAnyH_take (i := 1) (oi := { dst := some 42, op := Op.indexAddr 75 (Operand.tmp 9) (Operand.tmp 41), type := 0, pos := "l7_mail.go:98", after := #[{ on := 0, ground := Ground.data }], guard := none }) (v := ?_) rfl (by kernel_rfl) (by kernel_rfl) (by kernel_rfl) (fun _ _ _ h => h) (Or.inl ⟨by rfl, ?_⟩) (by assumption) ?_
          rotate_left
          · intro wq hSw
            (try dsimp only at hSw)
            go_simp
            try with_reducible rfl
          try simp only [Act.put, List.setIfInBounds_toArray, List.set_cons_zero, List.set_cons_succ]
          refine wpAnyH_take (i := 2) (oi := { dst := some 43, op := Op.fieldAddr 74 (Operand.tmp 42) 3, type := 0, pos := "l7_mail.go:98", after := #[{ on := 1, ground := Ground.data }], guard := none }) (v := ?_) rfl (by kernel_rfl) (by kernel_rfl) (by kernel_rfl) (fun _ _ _ h => h) (Or.inl ⟨by rfl, ?_⟩) (by assumption) ?_
          rotate_left
          · intro wq hSw
            (try dsimp only at hSw)
            go_simp
            try with_reducible rfl
          try simp only [Act.put, List.setIfInBounds_toArray, List.set_cons_zero, List.set_cons_succ]
          refine wpAnyH_take (i := 3) (oi := { dst := some 44, op := Op.load 72 (Operand.tmp 43), type := 72, pos := "l7_mail.go:98", after := #[{ on := 2, ground := Ground.data }], guard := none }) (v := ?_) rfl (by kernel_rfl) (by kernel_rfl) (by kernel_rfl) (fun _ _ _ h => h) (Or.inl ⟨by rfl, ?_⟩) (by assumption) ?_
          rotate_left
          · intro wq hSw
            (try dsimp only at hSw)
            go_simp
            try with_reducible rfl
          try simp only [Act.put, List.setIfInBounds_toArray, List.set_cons_zero, List.set_cons_succ]
          refine wpAnyH_take (i := 4) (oi := { dst := some 45, op := Op.move (Operand.tmp 7), type := 9, pos := "l7_mail.go:98", after := #[], guard := none }) (v := ?_) rfl (by kernel_rfl) (by kernel_rfl) (by kernel_rfl) (fun _ _ _ h => h) (Or.inl ⟨by rfl, ?_⟩) (by assumption) ?_
          rotate_left
          · intro wq hSw
            (try dsimp only at hSw)
            go_simp
            try with_reducible rfl
          try simp only [Act.put, List.setIfInBounds_toArray, List.set_cons_zero, List.set_cons_succ]
          refine wpAnyH_take (i := 5) (oi := { dst := some 46, op := Op.move (Operand.tmp 4), type := 80, pos := "l7_mail.go:98", after := #[], guard := none }) (v := ?_) rfl (by kernel_rfl) (by kernel_rfl) (by kernel_rfl) (fun _ _ _ h => h) (Or.inl ⟨by rfl, ?_⟩) (by assumption) ?_
          rotate_left
          · intro wq hSw
            (try dsimp only at hSw)
            go_simp
            try with_reducible rfl
          try simp only [Act.put, List.setIfInBounds_toArray, List.set_cons_zero, List.set_cons_succ]
          refine wpAnyH_take (i := 6) (oi := { dst := some 47, op := Op.slice 80 (Operand.tmp 46) (some (Operand.const (Value.int IntKind.i64 1))) none none, type := 80, pos := "l7_mail.go:98", after := #[{ on := 5, ground := Ground.data }], guard := none }) (v := .slice (some ⟨g, o1, none⟩) b.length b.length) rfl (by kernel_rfl) (by kernel_rfl) (by kernel_rfl) (fun _ _ _ h => h) (Or.inl ⟨by rfl, ?_⟩) (by assumption) ?_
          · intro wq hSw
            (try dsimp only at hSw)
            go_simp
            first | (intro h; omega) | (rw [if_pos (by omega), ho1])
          try simp only [Act.put, List.setIfInBounds_toArray, List.set_cons_zero, List.set_cons_succ]
          refine wpAnyH_ready (rs := [7, 11]) (by kernel_rfl) (by simp) ?_
          refine AllReadyH.cons (o := { dst := some 48, op := Op.call { callee := Callee.value (Operand.tmp 44), args := #[Operand.tmp 45, Operand.tmp 47], argTypes := #[9, 80] }, type := 52, pos := "l7_mail.go:98", after := #[{ on := 3, ground := Ground.data }, { on := 4, ground := Ground.data }, { on := 6, ground := Ground.data }], guard := none }) rfl (fun K hK => ?_) (AllReadyH.cons (o := { dst := some 11, op := Op.alloc 41, type := 0, pos := "l7_mail.go:98", after := #[], guard := none }) rfl (fun K hK => ?_) AllReadyH.nil)
          · go_simp
            refine (c78 (restOf f) b g o1 b.length _ hrs (max_below hm0 ((Below.refl _ _).drew)) hbl (linesIn_below hln0 ((Below.refl _ _).drew)) HBS.out).mono ?_
            rintro e w5 ⟨⟨x, ok, ai, ci, rfl, hrd, hkd, hle, hlk⟩, hb5⟩
            have hbc : Below W0.heap.size W0 w5 := ((Below.refl _ _).drew).trans hb5
            go_wp2_with fail
            clear hHeld
            refine hK.out _ _ ?_ (fun hHeld => ?_)
            · exact (hbc.cell (p := ⟨Wb, 7, none⟩) hWz).trans (HWA.out 7 _ rfl)
            clear hK K
            try simp only [Act.put, List.setIfInBounds_toArray, List.set_cons_zero, List.set_cons_succ]
            refine wpAnyH_take (i := 8) (oi := { dst := some 40, op := Op.move (Operand.tmp 48), type := 52, pos := "l7_mail.go:98", after := #[{ on := 7, ground := Ground.data }], guard := none }) (v := ?_) rfl (by kernel_rfl) (by kernel_rfl) (by kernel_rfl) (fun _ _ _ h => h) (Or.inl ⟨by rfl, ?_⟩) (by assumption) ?_
            rotate_left
            · intro wq hSw
              (try dsimp only at hSw)
              go_simp
              try with_reducible rfl
            try simp only [Act.put, List.setIfInBounds_toArray, List.set_cons_zero, List.set_cons_succ]
            refine wpAnyH_take (i := 9) (oi := { dst := some 49, op := Op.extract (Operand.tmp 40) 0, type := 41, pos := "l7_mail.go:98", after := #[{ on := 8, ground := Ground.data }], guard := none }) (v := ?_) rfl (by kernel_rfl) (by kernel_rfl) (by kernel_rfl) (fun _ _ _ h => h) (Or.inl ⟨by rfl, ?_⟩) (by assumption) ?_
            rotate_left
            · intro wq hSw
              (try dsimp only at hSw)
              go_simp
              try with_reducible rfl
            try simp only [Act.put, List.setIfInBounds_toArray, List.set_cons_zero, List.set_cons_succ]
            refine wpAnyH_take (i := 10) (oi := { dst := some 50, op := Op.extract (Operand.tmp 40) 1, type := 4, pos := "l7_mail.go:98", after := #[{ on := 8, ground := Ground.data }, { on := 12, ground := Ground.gcOnly Departure.lateStores }], guard := none }) (v := ?_) rfl (by kernel_rfl) (by kernel_rfl) (by kernel_rfl) (fun _ _ _ h => h) (Or.inl ⟨by rfl, ?_⟩) (by assumption) ?_
            rotate_left
            · intro wq hSw
              (try dsimp only at hSw)
              go_simp
              try with_reducible rfl
            try simp only [Act.put, List.setIfInBounds_toArray, List.set_cons_zero, List.set_cons_succ]
            have hb5a : Below w5.heap.size w5 (w5.alloc (.cells #[.int .i64 0, .int .i64 0, .int .i64 0, .int .i64 0, .int .i64 0, .string ⟨#[]⟩, .string ⟨#[]⟩, .string ⟨#[]⟩, .slice none 0 0, .int .i64 0, .bool false, .int .i64 0, .string ⟨#[]⟩, .bool false, .string ⟨#[]⟩, .int .i64 0] 41)) := (Below.refl _ _).alloc (Nat.le_refl _) _
            have hza : (w5.alloc (.cells #[.int .i64 0, .int .i64 0, .int .i64 0, .int .i64 0, .int .i64 0, .string ⟨#[]⟩, .string ⟨#[]⟩, .string ⟨#[]⟩, .slice none 0 0, .int .i64 0, .bool false, .int .i64 0, .string ⟨#[]⟩, .bool false, .string ⟨#[]⟩, .int .i64 0] 41)).heap.size = w5.heap.size + 1 := by simp
            refine wpAnyH_ready (rs := [11]) (by kernel_rfl) (by simp) ?_
            refine AllReadyH.cons (o := { dst := some 11, op := Op.alloc 41, type := 0, pos := "l7_mail.go:98", after := #[], guard := none }) rfl (fun K hK => ?_) AllReadyH.nil
            go_simp
            clear hHeld
            refine hK.out _ _ ?_ (fun hHeld => ?_)
            · exact (hb5a.cell (p := ⟨Wb, 7, none⟩) (Nat.lt_of_lt_of_le hWz hbc.size)).trans ((hbc.cell (p := ⟨Wb, 7, none⟩) hWz).trans (HWA.out 7 _ rfl))
            clear hK K
            try simp only [Act.put, List.setIfInBounds_toArray, List.set_cons_zero, List.set_cons_succ]
            refine wpAnyH_ready (rs := [12]) (by kernel_rfl) (by simp) ?_
            refine AllReadyH.cons (o := { dst := none, op := Op.store 41 (Operand.tmp 11) (Operand.tmp 49), type := 0, pos := "l7_mail.go:98", after := #[{ on := 11, ground := Ground.data }, { on := 9, ground := Ground.data }, { on := 7, ground := Ground.chain }, { on := 0, ground := Ground.phase }, { on := 1, ground := Ground.phase }, { on := 2, ground := Ground.phase }, { on := 3, ground := Ground.phase }, { on := 4, ground := Ground.phase }, { on := 5, ground := Ground.phase }, { on := 6, ground := Ground.phase }, { on := 7, ground := Ground.phase }, { on := 8, ground := Ground.phase }, { on := 9, ground := Ground.phase }, { on := 10, ground := Ground.textOnly Departure.lateStores }, { on := 11, ground := Ground.phase }], guard := none }) rfl (fun K hK => ?_) AllReadyH.nil
            refine step_store_blk rfl 41 (.tmp 11) (.tmp 49) rfl w5.heap.size 0 rfl (x.c ai ci) rfl (blk_some (blk_new w5 zG 41) _ rfl) (opn_new w5 _ 41) (G16.c_one _ _ _) (by kernel_rfl) rfl ?_
            clear hHeld
            refine hK.out _ _ ?_ (fun hHeld => ?_)
            · exact (cell_fill _ 0 ⟨Wb, 7, none⟩ (by show Wb ≠ w5.heap.size; have := hbc.size; omega)).trans ((hb5a.cell (p := ⟨Wb, 7, none⟩) (Nat.lt_of_lt_of_le hWz hbc.size)).trans ((hbc.cell (p := ⟨Wb, 7, none⟩) hWz).trans (HWA.out 7 _ rfl)))
            clear hK K
            try simp only [Act.put, List.setIfInBounds_toArray, List.set_cons_zero, List.set_cons_succ]
            refine wpAnyH_take (i := 13) (oi := { dst := some 12, op := Op.assign (Operand.tmp 50), type := 4, pos := "l7_mail.go:98", after := #[{ on := 10, ground := Ground.data }, { on := 12, ground := Ground.chain }, { on := 0, ground := Ground.phase }, { on := 1, ground := Ground.phase }, { on := 2, ground := Ground.phase }, { on := 3, ground := Ground.phase }, { on := 4, ground := Ground.phase }, { on := 5, ground := Ground.phase }, { on := 6, ground := Ground.phase }, { on := 7, ground := Ground.phase }, { on := 8, ground := Ground.phase }, { on := 9, ground := Ground.phase }, { on := 10, ground := Ground.phase }, { on := 11, ground := Ground.phase }, { on := 12, ground := Ground.phase }], guard := none }) (v := ?_) rfl (by kernel_rfl) (by kernel_rfl) (by kernel_rfl) (fun _ _ _ h => h) (Or.inl ⟨by rfl, ?_⟩) (by assumption) ?_
            rotate_left
            · intro wq hSw
              (try dsimp only at hSw)
              go_simp
              try with_reducible rfl
            try simp only [Act.put, List.setIfInBounds_toArray, List.set_cons_zero, List.set_cons_succ]
            refine wpAnyH_done (by kernel_rfl) ?_ _
            clear hHeld
            have hz5 : W0.heap.size ≤ w5.heap.size := hbc.size
            obtain ⟨U, hU⟩ : ∃ U, U = fill (w5.alloc (.cells #[.int .i64 0, .int .i64 0, .int .i64 0, .int .i64 0, .int .i64 0, .string ⟨#[]⟩, .string ⟨#[]⟩, .string ⟨#[]⟩, .slice none 0 0, .int .i64 0, .bool false, .int .i64 0, .string ⟨#[]⟩, .bool false, .string ⟨#[]⟩, .int .i64 0] 41)) w5.heap.size 0 (x.c ai ci) := ⟨_, rfl⟩
            have hUU : Below w5.heap.size w5 U := hU ▸ below_fill (Nat.le_refl _) _ 0 hb5a
            have hzU : U.heap.size = w5.heap.size + 1 := by rw [hU, size_fill, hza]
            obtain ⟨Bm, hBmE⟩ : ∃ Bm, Bm = w5.heap.size := ⟨_, rfl⟩
            have HM : Hid (BlkAt U Bm (x.c ai ci)) := by
              rw [hU, hBmE]
              exact BlkAt.fill (B := w5.heap.size) (x.c ai ci) [] zG [] 0 (blk_new w5 zG 41) rfl rfl
            have hBm : Bm < U.heap.size := by omega
            have hBW : Below W0.heap.size W0 U := hbc.trans (hUU.mono hz5)
            have HLK : Hid (LkOwn U (w.heap.size + 1) ai x.ls) := lkown_bel (hlk.mono (by show _ ≤ W0.drew.heap.size; simp; omega)) hUU
            rw [← hU]
            rw [← hBmE]
            clear hU hlk hb5 hb5a hUU hza hbc hBmE hzU
            have HWU : Hid (BlkAt U Wb wayL) := HWA.out.below hBW hWz
            have HRU : Hid (BlkAt U w.heap.size zG) := HRA.out.below hBW (by omega)
            have HOU : Hid (OpnAt U w.heap.size) := HOA.out.below hBW (by omega)
            have hBU : Below w.heap.size w U := hBw0.trans (hBW.mono (by omega))
            have hRz : w.heap.size < U.heap.size := Nat.lt_of_lt_of_le hRz0 hBW.size
            have hWz' : Wb < U.heap.size := Nat.lt_of_lt_of_le hWz hBW.size
            have HRD : Hid (RdMsg 1 (restOf f) b x ok) := hrd
            clear hWz
            rename Wb < U.heap.size => hWz
            clear hrd hBW
            cases ok
            · have HN : Hid (RdMail s.data.toList g16z false) := (rdMail_kind (by decide) hen.out hfb.out hwd.out HRD.out).2 (fun h => by cases h.1) g16z
              clear HRD
              go_wp2_with fail
              refine wp_region_held_drew (S := (fun _ => True)) (by kernel_rfl) ?_ (fun hHeld => ?_)
              · ((try dsimp only); (try trivial))
              refine wpAnyH_take (i := 0) (oi := { dst := some 51, op := Op.move (Operand.tmp 12), type := 4, pos := "l7_mail.go:99", after := #[], guard := none }) (v := ?_) rfl (by kernel_rfl) (by kernel_rfl) (by kernel_rfl) (fun _ _ _ h => h) (Or.inl ⟨by rfl, ?_⟩) (by assumption) ?_
              rotate_left
              · intro wq hSw
                (try dsimp only at hSw)
                go_simp
                try with_reducible rfl
              try simp only [Act.put, List.setIfInBounds_toArray, List.set_cons_zero, List.set_cons_succ]
              refine wpAnyH_take (i := 1) (oi := { dst := some 52, op := Op.unOp UnOp.not 4 (Operand.tmp 51), type := 4, pos := "l7_mail.go:99", after := #[{ on := 0, ground := Ground.data }], guard := none }) (v := ?_) rfl (by kernel_rfl) (by kernel_rfl) (by kernel_rfl) (fun _ _ _ h => h) (Or.inl ⟨by rfl, ?_⟩) (by assumption) ?_
              rotate_left
              · intro wq hSw
                (try dsimp only at hSw)
                go_simp
                try with_reducible rfl
              try simp only [Act.put, List.setIfInBounds_toArray, List.set_cons_zero, List.set_cons_succ]
              refine wpAnyH_take (i := 2) (oi := { dst := some 53, op := Op.move (Operand.tmp 52), type := 4, pos := "l7_mail.go:99", after := #[{ on := 1, ground := Ground.data }], guard := none }) (v := ?_) rfl (by kernel_rfl) (by kernel_rfl) (by kernel_rfl) (fun _ _ _ h => h) (Or.inl ⟨by rfl, ?_⟩) (by assumption) ?_
              rotate_left
              · intro wq hSw
                (try dsimp only at hSw)
                go_simp
                try with_reducible rfl
              try simp only [Act.put, List.setIfInBounds_toArray, List.set_cons_zero, List.set_cons_succ]
              refine wpAnyH_take (i := 3) (oi := { dst := some 54, op := Op.move (Operand.tmp 10), type := 3, pos := "l7_mail.go:99", after := #[{ on := 2, ground := Ground.guard }], guard := some (2, false) }) (v := undef) rfl (by kernel_rfl) (by kernel_rfl) (by kernel_rfl) (fun _ _ _ h => h) (Or.inr ⟨by rfl, rfl⟩) (by assumption) ?_
              try simp only [Act.put, List.setIfInBounds_toArray, List.set_cons_zero, List.set_cons_succ]
              refine wpAnyH_take (i := 4) (oi := { dst := some 55, op := Op.indexAddr 75 (Operand.tmp 9) (Operand.tmp 54), type := 0, pos := "l7_mail.go:99", after := #[{ on := 3, ground := Ground.data }, { on := 2, ground := Ground.guard }], guard := some (2, false) }) (v := undef) rfl (by kernel_rfl) (by kernel_rfl) (by kernel_rfl) (fun _ _ _ h => h) (Or.inr ⟨by rfl, rfl⟩) (by assumption) ?_
              try simp only [Act.put, List.setIfInBounds_toArray, List.set_cons_zero, List.set_cons_succ]
              refine wpAnyH_take (i := 5) (oi := { dst := some 56, op := Op.fieldAddr 74 (Operand.tmp 55) 1, type := 0, pos := "l7_mail.go:99", after := #[{ on := 4, ground := Ground.data }, { on := 2, ground := Ground.guard }], guard := some (2, false) }) (v := undef) rfl (by kernel_rfl) (by kernel_rfl) (by kernel_rfl) (fun _ _ _ h => h) (Or.inr ⟨by rfl, rfl⟩) (by assumption) ?_
              try simp only [Act.put, List.setIfInBounds_toArray, List.set_cons_zero, List.set_cons_succ]
              refine wpAnyH_take (i := 6) (oi := { dst := some 57, op := Op.load 60 (Operand.tmp 56), type := 60, pos := "l7_mail.go:99", after := #[{ on := 5, ground := Ground.data }, { on := 2, ground := Ground.guard }], guard := some (2, false) }) (v := undef) rfl (by kernel_rfl) (by kernel_rfl) (by kernel_rfl) (fun _ _ _ h => h) (Or.inr ⟨by rfl, rfl⟩) (by assumption) ?_
              try simp only [Act.put, List.setIfInBounds_toArray, List.set_cons_zero, List.set_cons_succ]
              refine wpAnyH_take (i := 7) (oi := { dst := some 58, op := Op.load 41 (Operand.tmp 11), type := 41, pos := "l7_mail.go:99", after := #[{ on := 2, ground := Ground.guard }], guard := some (2, false) }) (v := undef) rfl (by kernel_rfl) (by kernel_rfl) (by kernel_rfl) (fun _ _ _ h => h) (Or.inr ⟨by rfl, rfl⟩) (by assumption) ?_
              try simp only [Act.put, List.setIfInBounds_toArray, List.set_cons_zero, List.set_cons_succ]
              refine wpAnyH_take (i := 8) (oi := { dst := some 59, op := Op.call { callee := Callee.value (Operand.tmp 57), args := #[Operand.tmp 58], argTypes := #[41] }, type := 4, pos := "l7_mail.go:99", after := #[{ on := 6, ground := Ground.data }, { on := 7, ground := Ground.data }, { on := 2, ground := Ground.chain }, { on := 2, ground := Ground.guard }], guard := some (2, false) }) (v := undef) rfl (by kernel_rfl) (by kernel_rfl) (by kernel_rfl) (fun _ _ _ h => h) (Or.inr ⟨by rfl, rfl⟩) (by assumption) ?_
              try simp only [Act.put, List.setIfInBounds_toArray, List.set_cons_zero, List.set_cons_succ]
              refine wpAnyH_take (i := 9) (oi := { dst := some 60, op := Op.unOp UnOp.not 4 (Operand.tmp 59), type := 4, pos := "l7_mail.go:99", after := #[{ on := 8, ground := Ground.data }, { on := 2, ground := Ground.guard }], guard := some (2, false) }) (v := undef) rfl (by kernel_rfl) (by kernel_rfl) (by kernel_rfl) (fun _ _ _ h => h) (Or.inr ⟨by rfl, rfl⟩) (by assumption) ?_
              try simp only [Act.put, List.setIfInBounds_toArray, List.set_cons_zero, List.set_cons_succ]
              refine wpAnyH_take (i := 10) (oi := { dst := some 61, op := Op.pick (Operand.tmp 53) (Operand.const (Value.bool true)) (Operand.tmp 60), type := 4, pos := "l7_mail.go:99", after := #[{ on := 2, ground := Ground.data }, { on := 9, ground := Ground.data }], guard := none }) (v := ?_) rfl (by kernel_rfl) (by kernel_rfl) (by kernel_rfl) (fun _ _ _ h => h) (Or.inl ⟨by rfl, ?_⟩) (by assumption) ?_
              rotate_left
              · intro wq hSw
                (try dsimp only at hSw)
                go_simp
                try with_reducible rfl
              try simp only [Act.put, List.setIfInBounds_toArray, List.set_cons_zero, List.set_cons_succ]
              refine wpAnyH_done (by kernel_rfl) ?_ _
              clear hHeld
              go_wp2_with (refine wpList_store_blk rfl 41 (.tmp 2) (.tmp 62) rfl w.heap.size 0 rfl zG rfl (blk_some (BlkAt.drewW HRU.out) zG rfl) (OpnAt.drewW HOU.out) (by simp [zG, Value.oneCell']) (by kernel_rfl) rfl ?_)
              exact finM_no HN.out rfl rfl rfl (BlkAt.drewW HRU.out) hBU.drew
            · have HKD : Hid (x.kd = 1) := hkd rfl
              go_wp2_with fail
              refine wp_region_held_drew (S := (fun u => BlkAt u Bm (x.c ai ci) ∧ u.cell? ⟨Wb, 5, none⟩ = some (.func (.func 76) #[] #[]))) (by kernel_rfl) ?_ (fun hHeld => ?_)
              · exact ⟨HM.out, HWU.out 5 _ rfl⟩
              refine wpAnyH_take (i := 0) (oi := { dst := some 51, op := Op.move (Operand.tmp 12), type := 4, pos := "l7_mail.go:99", after := #[], guard := none }) (v := ?_) rfl (by kernel_rfl) (by kernel_rfl) (by kernel_rfl) (fun _ _ _ h => h) (Or.inl ⟨by rfl, ?_⟩) (by assumption) ?_
              rotate_left
              · intro wq hSw
                (try dsimp only at hSw)
                go_simp
                try with_reducible rfl
              try simp only [Act.put, List.setIfInBounds_toArray, List.set_cons_zero, List.set_cons_succ]
              refine wpAnyH_take (i := 1) (oi := { dst := some 52, op := Op.unOp UnOp.not 4 (Operand.tmp 51), type := 4, pos := "l7_mail.go:99", after := #[{ on := 0, ground := Ground.data }], guard := none }) (v := ?_) rfl (by kernel_rfl) (by kernel_rfl) (by kernel_rfl) (fun _ _ _ h => h) (Or.inl ⟨by rfl, ?_⟩) (by assumption) ?_
              rotate_left
              · intro wq hSw
                (try dsimp only at hSw)
                go_simp
                try with_reducible rfl
              try simp only [Act.put, List.setIfInBounds_toArray, List.set_cons_zero, List.set_cons_succ]
              refine wpAnyH_take (i := 2) (oi := { dst := some 53, op := Op.move (Operand.tmp 52), type := 4, pos := "l7_mail.go:99", after := #[{ on := 1, ground := Ground.data }], guard := none }) (v := ?_) rfl (by kernel_rfl) (by kernel_rfl) (by kernel_rfl) (fun _ _ _ h => h) (Or.inl ⟨by rfl, ?_⟩) (by assumption) ?_
              rotate_left
              · intro wq hSw
                (try dsimp only at hSw)
                go_simp
                try with_reducible rfl
              try simp only [Act.put, List.setIfInBounds_toArray, List.set_cons_zero, List.set_cons_succ]
              refine wpAnyH_take (i := 3) (oi := { dst := some 54, op := Op.move (Operand.tmp 10), type := 3, pos := "l7_mail.go:99", after := #[{ on := 2, ground := Ground.guard }], guard := some (2, false) }) (v := ?_) rfl (by kernel_rfl) (by kernel_rfl) (by kernel_rfl) (fun _ _ _ h => h) (Or.inl ⟨by rfl, ?_⟩) (by assumption) ?_
              rotate_left
              · intro wq hSw
                (try dsimp only at hSw)
                go_simp
                try with_reducible rfl
              try simp only [Act.put, List.setIfInBounds_toArray, List.set_cons_zero, List.set_cons_succ]
              refine wpAnyH_take (i := 4) (oi := { dst := some 55, op := Op.indexAddr 75 (Operand.tmp 9) (Operand.tmp 54), type := 0, pos := "l7_mail.go:99", after := #[{ on := 3, ground := Ground.data }, { on := 2, ground := Ground.guard }], guard := some (2, false) }) (v := ?_) rfl (by kernel_rfl) (by kernel_rfl) (by kernel_rfl) (fun _ _ _ h => h) (Or.inl ⟨by rfl, ?_⟩) (by assumption) ?_
              rotate_left
              · intro wq hSw
                (try dsimp only at hSw)
                go_simp
                try with_reducible rfl
              try simp only [Act.put, List.setIfInBounds_toArray, List.set_cons_zero, List.set_cons_succ]
              refine wpAnyH_take (i := 5) (oi := { dst := some 56, op := Op.fieldAddr 74 (Operand.tmp 55) 1, type := 0, pos := "l7_mail.go:99", after := #[{ on := 4, ground := Ground.data }, { on := 2, ground := Ground.guard }], guard := some (2, false) }) (v := ?_) rfl (by kernel_rfl) (by kernel_rfl) (by kernel_rfl) (fun _ _ _ h => h) (Or.inl ⟨by rfl, ?_⟩) (by assumption) ?_
              rotate_left
              · intro wq hSw
                (try dsimp only at hSw)
                go_simp
                try with_reducible rfl
              try simp only [Act.put, List.setIfInBounds_toArray, List.set_cons_zero, List.set_cons_succ]
              refine wpAnyH_take (i := 6) (oi := { dst := some 57, op := Op.load 60 (Operand.tmp 56), type := 60, pos := "l7_mail.go:99", after := #[{ on := 5, ground := Ground.data }, { on := 2, ground := Ground.guard }], guard := some (2, false) }) (v := ?_) rfl (by kernel_rfl) (by kernel_rfl) (by kernel_rfl) (fun _ _ _ h => h) (Or.inl ⟨by rfl, ?_⟩) (by assumption) ?_
              rotate_left
              · intro wq hSw
                (try dsimp only at hSw)
                go_simp
                try with_reducible rfl
              try simp only [Act.put, List.setIfInBounds_toArray, List.set_cons_zero, List.set_cons_succ]
              refine wpAnyH_take (i := 7) (oi := { dst := some 58, op := Op.load 41 (Operand.tmp 11), type := 41, pos := "l7_mail.go:99", after := #[{ on := 2, ground := Ground.guard }], guard := some (2, false) }) (v := .agg ((x.c ai ci) : List Value).toArray) rfl (by kernel_rfl) (by kernel_rfl) (by kernel_rfl) (fun _ _ _ h => h) (Or.inl ⟨by rfl, ?_⟩) (by assumption) ?_
              · intro wq hSw
                have hq := run_loadVar_blk (P := Tryz.prog) wq Bm 41 (x.c ai ci) _ hSw.1 Tryz.underlying41 rfl (by kernel_rfl)
                have hg := load_ex hq
                first
                  | exact hg
                  | (simp only [execOp, Sem.run_bind, Sem.run_pure]; exact hg)
                  | (unfold execOp; simp only [Sem.run_bind, Sem.run_pure]; exact hg)
              try simp only [Act.put, List.setIfInBounds_toArray, List.set_cons_zero, List.set_cons_succ]
              refine wpAnyH_ready (rs := [8]) (by kernel_rfl) (by simp) ?_
              refine AllReadyH.cons (o := { dst := some 59, op := Op.call { callee := Callee.value (Operand.tmp 57), args := #[Operand.tmp 58], argTypes := #[41] }, type := 4, pos := "l7_mail.go:99", after := #[{ on := 6, ground := Ground.data }, { on := 7, ground := Ground.data }, { on := 2, ground := Ground.chain }, { on := 2, ground := Ground.guard }], guard := some (2, false) }) rfl (fun K hK => ?_) AllReadyH.nil
              go_simp
              refine (c76v x ai ci _ HKD.out hle (lks_below HLK.out.at' ((Below.refl _ _).drew))).mono ?_
              rintro e w6 ⟨⟨r, rfl, hrr⟩, hb6⟩
              have hbd : Below U.heap.size U w6 := ((Below.refl _ _).drew).trans hb6
              have HRR : Hid (r = true ↔ OfferOk x) := hrr
              clear hb6 hrr
              have HM6 : BlkAt w6 Bm (x.c ai ci) := HM.out.below hbd hBm
              have HR6 : BlkAt w6 w.heap.size zG := HRU.out.below hbd hRz
              have HO6 : OpnAt w6 w.heap.size := HOU.out.below hbd hRz
              have hB6 : Below w.heap.size w w6 := hBU.trans (hbd.mono hBU.size)
              have HLK6 : LkOwn w6 (w.heap.size + 1) ai x.ls := lkown_bel HLK.out hbd
              go_wp2_with fail
              clear hHeld
              refine hK.out _ _ ?_ (fun hHeld => ?_)
              · exact ⟨HM6, (hbd.cell (p := ⟨Wb, 5, none⟩) hWz).trans (HWU.out 5 _ rfl)⟩
              clear hK K
              try simp only [Act.put, List.setIfInBounds_toArray, List.set_cons_zero, List.set_cons_succ]
              refine wpAnyH_take (i := 9) (oi := { dst := some 60, op := Op.unOp UnOp.not 4 (Operand.tmp 59), type := 4, pos := "l7_mail.go:99", after := #[{ on := 8, ground := Ground.data }, { on := 2, ground := Ground.guard }], guard := some (2, false) }) (v := ?_) rfl (by kernel_rfl) (by kernel_rfl) (by kernel_rfl) (fun _ _ _ h => h) (Or.inl ⟨by rfl, ?_⟩) (by assumption) ?_
              rotate_left
              · intro wq hSw
                (try dsimp only at hSw)
                go_simp
                try with_reducible rfl
              try simp only [Act.put, List.setIfInBounds_toArray, List.set_cons_zero, List.set_cons_succ]
              refine wpAnyH_take (i := 10) (oi := { dst := some 61, op := Op.pick (Operand.tmp 53) (Operand.const (Value.bool true)) (Operand.tmp 60), type := 4, pos := "l7_mail.go:99", after := #[{ on := 2, ground := Ground.data }, { on := 9, ground := Ground.data }], guard := none }) (v := ?_) rfl (by kernel_rfl) (by kernel_rfl) (by kernel_rfl) (fun _ _ _ h => h) (Or.inl ⟨by rfl, ?_⟩) (by assumption) ?_
              rotate_left
              · intro wq hSw
                (try dsimp only at hSw)
                go_simp
                try with_reducible rfl
              try simp only [Act.put, List.setIfInBounds_toArray, List.set_cons_zero, List.set_cons_succ]
              refine wpAnyH_done (by kernel_rfl) ?_ _
              clear hHeld
              cases r
              · have HN : Hid (RdMail s.data.toList g16z false) := (rdMail_kind (by decide) hen.out hfb.out hwd.out HRD.out).2 (fun h => by
                  have h2 : OfferOk x := by
                    have hq := HKD.out
                    rcases h.2 with ⟨h, h'⟩ | ⟨h, h'⟩ | ⟨h, h'⟩ <;> first | exact h' | (exfalso; omega)
                  exact absurd (HRR.out.2 h2) (by decide)) g16z
                clear HRD
                go_wp2_with (refine wpList_store_blk rfl 41 (.tmp 2) (.tmp 62) rfl w.heap.size 0 rfl zG rfl (blk_some HR6 zG rfl) HO6 (by simp [zG, Value.oneCell']) (by kernel_rfl) rfl ?_)
                exact finM_no HN.out rfl rfl rfl HR6 hB6
              · have HN : Hid (RdMail s.data.toList x true) := (rdMail_kind (by decide) hen.out hfb.out hwd.out HRD.out).1 rfl (.inl ⟨HKD.out, HRR.out.1 rfl⟩)
                clear HRD
                go_wp2_with (first | refine wpList_load_blk rfl 41 (.tmp 11) rfl Bm rfl (x.c ai ci) _ HM6 Tryz.underlying41 rfl (by kernel_rfl) ?_ | refine wpList_store_blk rfl 41 (.tmp 2) (.tmp 63) rfl w.heap.size 0 rfl (x.c ai ci) rfl (blk_some HR6 _ rfl) HO6 (G16.c_one _ _ _) (by kernel_rfl) rfl ?_)
                exact finM_yes x ai ci HN.out hle HLK6 rfl rfl rfl HR6 hB6
          · have hWB : Below W0.heap.size W0 (W0.alloc (.cells #[.int .i64 0, .int .i64 0, .int .i64 0, .int .i64 0, .int .i64 0, .string ⟨#[]⟩, .string ⟨#[]⟩, .string ⟨#[]⟩, .slice none 0 0, .int .i64 0, .bool false, .int .i64 0, .string ⟨#[]⟩, .bool false, .string ⟨#[]⟩, .int .i64 0] 41)).drew := ((Below.refl _ _).alloc (Nat.le_refl _) _).drew
            have hNB : BlkAt (W0.alloc (.cells #[.int .i64 0, .int .i64 0, .int .i64 0, .int .i64 0, .int .i64 0, .string ⟨#[]⟩, .string ⟨#[]⟩, .string ⟨#[]⟩, .slice none 0 0, .int .i64 0, .bool false, .int .i64 0, .string ⟨#[]⟩, .bool false, .string ⟨#[]⟩, .int .i64 0] 41)).drew W0.heap.size zG := BlkAt.drewW (blk_new W0 zG 41)
            have hOB : OpnAt (W0.alloc (.cells #[.int .i64 0, .int .i64 0, .int .i64 0, .int .i64 0, .int .i64 0, .string ⟨#[]⟩, .string ⟨#[]⟩, .string ⟨#[]⟩, .slice none 0 0, .int .i64 0, .bool false, .int .i64 0, .string ⟨#[]⟩, .bool false, .string ⟨#[]⟩, .int .i64 0] 41)).drew W0.heap.size := OpnAt.drewW (opn_new W0 _ 41)
            have hzB : (W0.alloc (.cells #[.int .i64 0, .int .i64 0, .int .i64 0, .int .i64 0, .int .i64 0, .string ⟨#[]⟩, .string ⟨#[]⟩, .string ⟨#[]⟩, .slice none 0 0, .int .i64 0, .bool false, .int .i64 0, .string ⟨#[]⟩, .bool false, .string ⟨#[]⟩, .int .i64 0] 41)).drew.heap.size = W0.heap.size + 1 := by simp
            go_simp
            clear hHeld
            refine hK.out _ _ ?_ (fun hHeld => ?_)
            · exact (hWB.cell (p := ⟨Wb, 7, none⟩) hWz).trans (HWA.out 7 _ rfl)
            clear hK K
            try simp only [Act.put, List.setIfInBounds_toArray, List.set_cons_zero, List.set_cons_succ]
            refine wpAnyH_ready (rs := [7]) (by kernel_rfl) (by simp) ?_
            refine AllReadyH.cons (o := { dst := some 48, op := Op.call { callee := Callee.value (Operand.tmp 44), args := #[Operand.tmp 45, Operand.tmp 47], argTypes := #[9, 80] }, type := 52, pos := "l7_mail.go:98", after := #[{ on := 3, ground := Ground.data }, { on := 4, ground := Ground.data }, { on := 6, ground := Ground.data }], guard := none }) rfl (fun K hK => ?_) AllReadyH.nil
            go_simp
            refine (c78 (restOf f) b g o1 b.length _ hrs (max_below hm0 hWB) hbl (linesIn_below hln0 hWB) HBS.out).mono ?_
            rintro e w5 ⟨⟨x, ok, ai, ci, rfl, hrd, hkd, hle, hlk⟩, hb5⟩
            have hbc : Below W0.heap.size W0 w5 := hWB.trans (hb5.mono (by rw [hzB]; omega))
            go_wp2_with fail
            clear hHeld
            refine hK.out _ _ ?_ (fun hHeld => ?_)
            · exact (hbc.cell (p := ⟨Wb, 7, none⟩) hWz).trans (HWA.out 7 _ rfl)
            clear hK K
            try simp only [Act.put, List.setIfInBounds_toArray, List.set_cons_zero, List.set_cons_succ]
            refine wpAnyH_take (i := 8) (oi := { dst := some 40, op := Op.move (Operand.tmp 48), type := 52, pos := "l7_mail.go:98", after := #[{ on := 7, ground := Ground.data }], guard := none }) (v := ?_) rfl (by kernel_rfl) (by kernel_rfl) (by kernel_rfl) (fun _ _ _ h => h) (Or.inl ⟨by rfl, ?_⟩) (by assumption) ?_
            rotate_left
            · intro wq hSw
              (try dsimp only at hSw)
              go_simp
              try with_reducible rfl
            try simp only [Act.put, List.setIfInBounds_toArray, List.set_cons_zero, List.set_cons_succ]
            refine wpAnyH_take (i := 9) (oi := { dst := some 49, op := Op.extract (Operand.tmp 40) 0, type := 41, pos := "l7_mail.go:98", after := #[{ on := 8, ground := Ground.data }], guard := none }) (v := ?_) rfl (by kernel_rfl) (by kernel_rfl) (by kernel_rfl) (fun _ _ _ h => h) (Or.inl ⟨by rfl, ?_⟩) (by assumption) ?_
            rotate_left
            · intro wq hSw
              (try dsimp only at hSw)
              go_simp
              try with_reducible rfl
            try simp only [Act.put, List.setIfInBounds_toArray, List.set_cons_zero, List.set_cons_succ]
            refine wpAnyH_take (i := 10) (oi := { dst := some 50, op := Op.extract (Operand.tmp 40) 1, type := 4, pos := "l7_mail.go:98", after := #[{ on := 8, ground := Ground.data }, { on := 12, ground := Ground.gcOnly Departure.lateStores }], guard := none }) (v := ?_) rfl (by kernel_rfl) (by kernel_rfl) (by kernel_rfl) (fun _ _ _ h => h) (Or.inl ⟨by rfl, ?_⟩) (by assumption) ?_
            rotate_left
            · intro wq hSw
              (try dsimp only at hSw)
              go_simp
              try with_reducible rfl
            try simp only [Act.put, List.setIfInBounds_toArray, List.set_cons_zero, List.set_cons_succ]
            have hN5 : BlkAt w5 W0.heap.size zG := hNB.below hb5 (by rw [hzB]; omega)
            have hO5 : OpnAt w5 W0.heap.size := hOB.below hb5 (by rw [hzB]; omega)
            refine wpAnyH_ready (rs := [12]) (by kernel_rfl) (by simp) ?_
            refine AllReadyH.cons (o := { dst := none, op := Op.store 41 (Operand.tmp 11) (Operand.tmp 49), type := 0, pos := "l7_mail.go:98", after := #[{ on := 11, ground := Ground.data }, { on := 9, ground := Ground.data }, { on := 7, ground := Ground.chain }, { on := 0, ground := Ground.phase }, { on := 1, ground := Ground.phase }, { on := 2, ground := Ground.phase }, { on := 3, ground := Ground.phase }, { on := 4, ground := Ground.phase }, { on := 5, ground := Ground.phase }, { on := 6, ground := Ground.phase }, { on := 7, ground := Ground.phase }, { on := 8, ground := Ground.phase }, { on := 9, ground := Ground.phase }, { on := 10, ground := Ground.textOnly Departure.lateStores }, { on := 11, ground := Ground.phase }], guard := none }) rfl (fun K hK => ?_) AllReadyH.nil
            refine step_store_blk rfl 41 (.tmp 11) (.tmp 49) rfl W0.heap.size 0 rfl (x.c ai ci) rfl (blk_some hN5 _ rfl) hO5 (G16.c_one _ _ _) (by kernel_rfl) rfl ?_
            clear hHeld
            refine hK.out _ _ ?_ (fun hHeld => ?_)
            · exact (cell_fill _ 0 ⟨Wb, 7, none⟩ (by show Wb ≠ W0.heap.size; omega)).trans ((hbc.cell (p := ⟨Wb, 7, none⟩) hWz).trans (HWA.out 7 _ rfl))
            clear hK K
            try simp only [Act.put, List.setIfInBounds_toArray, List.set_cons_zero, List.set_cons_succ]
            refine wpAnyH_take (i := 13) (oi := { dst := some 12, op := Op.assign (Operand.tmp 50), type := 4, pos := "l7_mail.go:98", after := #[{ on := 10, ground := Ground.data }, { on := 12, ground := Ground.chain }, { on := 0, ground := Ground.phase }, { on := 1, ground := Ground.phase }, { on := 2, ground := Ground.phase }, { on := 3, ground := Ground.phase }, { on := 4, ground := Ground.phase }, { on := 5, ground := Ground.phase }, { on := 6, ground := Ground.phase }, { on := 7, ground := Ground.phase }, { on := 8, ground := Ground.phase }, { on := 9, ground := Ground.phase }, { on := 10, ground := Ground.phase }, { on := 11, ground := Ground.phase }, { on := 12, ground := Ground.phase }], guard := none }) (v := ?_) rfl (by kernel_rfl) (by kernel_rfl) (by kernel_rfl) (fun _ _ _ h => h) (Or.inl ⟨by rfl, ?_⟩) (by assumption) ?_
            rotate_left
            · intro wq hSw
              (try dsimp only at hSw)
              go_simp
              try with_reducible rfl
            try simp only [Act.put, List.setIfInBounds_toArray, List.set_cons_zero, List.set_cons_succ]
            refine wpAnyH_done (by kernel_rfl) ?_ _
            clear hHeld
            have hz5 : W0.heap.size + 1 ≤ w5.heap.size := by have h := hb5.size; rw [hzB] at h; exact h
            obtain ⟨U, hU⟩ : ∃ U, U = fill w5 W0.heap.size 0 (x.c ai ci) := ⟨_, rfl⟩
            have hzU : U.heap.size = w5.heap.size := by rw [hU, size_fill]
            obtain ⟨Bm, hBmE⟩ : ∃ Bm, Bm = W0.heap.size := ⟨_, rfl⟩
            have HM : Hid (BlkAt U Bm (x.c ai ci)) := by
              rw [hU, hBmE]
              exact BlkAt.fill (B := W0.heap.size) (x.c ai ci) [] zG [] 0 hN5 rfl rfl
            have hBm : Bm < U.heap.size := by omega
            have hBW : Below W0.heap.size W0 U := hU ▸ below_fill (Nat.le_refl _) _ 0 hbc
            have HLK : Hid (LkOwn U (w.heap.size + 1) ai x.ls) := by
              have hlk2 : LkOwn w5 (W0.heap.size + 1) ai x.ls := hlk.mono (by rw [hzB]; exact Nat.le_refl _)
              rw [hU]
              exact (lkown_fill W0.heap.size (x.c ai ci) (by omega) 0 hlk2).mono (by omega)
            rw [← hU]
            rw [← hBmE]
            clear hU hlk hb5 hN5 hO5 hNB hOB hWB hzB hbc hBmE hzU
            have HWU : Hid (BlkAt U Wb wayL) := HWA.out.below hBW hWz
            have HRU : Hid (BlkAt U w.heap.size zG) := HRA.out.below hBW (by omega)
            have HOU : Hid (OpnAt U w.heap.size) := HOA.out.below hBW (by omega)
            have hBU : Below w.heap.size w U := hBw0.trans (hBW.mono (by omega))
            have hRz : w.heap.size < U.heap.size := Nat.lt_of_lt_of_le hRz0 hBW.size
            have hWz' : Wb < U.heap.size := Nat.lt_of_lt_of_le hWz hBW.size
            have HRD : Hid (RdMsg 1 (restOf f) b x ok) := hrd
            clear hWz
            rename Wb < U.heap.size => hWz
            clear hrd hBW
            cases ok
            · have HN : Hid (RdMail s.data.toList g16z false) := (rdMail_kind (by decide) hen.out hfb.out hwd.out HRD.out).2 (fun h => by cases h.1) g16z
              clear HRD
              go_wp2_with fail
              refine wp_region_held_drew (S := (fun _ => True)) (by kernel_rfl) ?_ (fun hHeld => ?_)
              · ((try dsimp only); (try trivial))
              refine wpAnyH_take (i := 0) (oi := { dst := some 51, op := Op.move (Operand.tmp 12), type := 4, pos := "l7_mail.go:99", after := #[], guard := none }) (v := ?_) rfl (by kernel_rfl) (by kernel_rfl) (by kernel_rfl) (fun _ _ _ h => h) (Or.inl ⟨by rfl, ?_⟩) (by assumption) ?_
              rotate_left
              · intro wq hSw
                (try dsimp only at hSw)
                go_simp
                try with_reducible rfl
              try simp only [Act.put, List.setIfInBounds_toArray, List.set_cons_zero, List.set_cons_succ]
              refine wpAnyH_take (i := 1) (oi := { dst := some 52, op := Op.unOp UnOp.not 4 (Operand.tmp 51), type := 4, pos := "l7_mail.go:99", after := #[{ on := 0, ground := Ground.data }], guard := none }) (v := ?_) rfl (by kernel_rfl) (by kernel_rfl) (by kernel_rfl) (fun _ _ _ h => h) (Or.inl ⟨by rfl, ?_⟩) (by assumption) ?_
              rotate_left
              · intro wq hSw
                (try dsimp only at hSw)
                go_simp
                try with_reducible rfl
              try simp only [Act.put, List.setIfInBounds_toArray, List.set_cons_zero, List.set_cons_succ]
              refine wpAnyH_take (i := 2) (oi := { dst := some 53, op := Op.move (Operand.tmp 52), type := 4, pos := "l7_mail.go:99", after := #[{ on := 1, ground := Ground.data }], guard := none }) (v := ?_) rfl (by kernel_rfl) (by kernel_rfl) (by kernel_rfl) (fun _ _ _ h => h) (Or.inl ⟨by rfl, ?_⟩) (by assumption) ?_
              rotate_left
              · intro wq hSw
                (try dsimp only at hSw)
                go_simp
                try with_reducible rfl
              try simp only [Act.put, List.setIfInBounds_toArray, List.set_cons_zero, List.set_cons_succ]
              refine wpAnyH_take (i := 3) (oi := { dst := some 54, op := Op.move (Operand.tmp 10), type := 3, pos := "l7_mail.go:99", after := #[{ on := 2, ground := Ground.guard }], guard := some (2, false) }) (v := undef) rfl (by kernel_rfl) (by kernel_rfl) (by kernel_rfl) (fun _ _ _ h => h) (Or.inr ⟨by rfl, rfl⟩) (by assumption) ?_
              try simp only [Act.put, List.setIfInBounds_toArray, List.set_cons_zero, List.set_cons_succ]
              refine wpAnyH_take (i := 4) (oi := { dst := some 55, op := Op.indexAddr 75 (Operand.tmp 9) (Operand.tmp 54), type := 0, pos := "l7_mail.go:99", after := #[{ on := 3, ground := Ground.data }, { on := 2, ground := Ground.guard }], guard := some (2, false) }) (v := undef) rfl (by kernel_rfl) (by kernel_rfl) (by kernel_rfl) (fun _ _ _ h => h) (Or.inr ⟨by rfl, rfl⟩) (by assumption) ?_
              try simp only [Act.put, List.setIfInBounds_toArray, List.set_cons_zero, List.set_cons_succ]
              refine wpAnyH_take (i := 5) (oi := { dst := some 56, op := Op.fieldAddr 74 (Operand.tmp 55) 1, type := 0, pos := "l7_mail.go:99", after := #[{ on := 4, ground := Ground.data }, { on := 2, ground := Ground.guard }], guard := some (2, false) }) (v := undef) rfl (by kernel_rfl) (by kernel_rfl) (by kernel_rfl) (fun _ _ _ h => h) (Or.inr ⟨by rfl, rfl⟩) (by assumption) ?_
              try simp only [Act.put, List.setIfInBounds_toArray, List.set_cons_zero, List.set_cons_succ]
              refine wpAnyH_take (i := 6) (oi := { dst := some 57, op := Op.load 60 (Operand.tmp 56), type := 60, pos := "l7_mail.go:99", after := #[{ on := 5, ground := Ground.data }, { on := 2, ground := Ground.guard }], guard := some (2, false) }) (v := undef) rfl (by kernel_rfl) (by kernel_rfl) (by kernel_rfl) (fun _ _ _ h => h) (Or.inr ⟨by rfl, rfl⟩) (by assumption) ?_
              try simp only [Act.put, List.setIfInBounds_toArray, List.set_cons_zero, List.set_cons_succ]
              refine wpAnyH_take (i := 7) (oi := { dst := some 58, op := Op.load 41 (Operand.tmp 11), type := 41, pos := "l7_mail.go:99", after := #[{ on := 2, ground := Ground.guard }], guard := some (2, false) }) (v := undef) rfl (by kernel_rfl) (by kernel_rfl) (by kernel_rfl) (fun _ _ _ h => h) (Or.inr ⟨by rfl, rfl⟩) (by assumption) ?_
              try simp only [Act.put, List.setIfInBounds_toArray, List.set_cons_zero, List.set_cons_succ]
              refine wpAnyH_take (i := 8) (oi := { dst := some 59, op := Op.call { callee := Callee.value (Operand.tmp 57), args := #[Operand.tmp 58], argTypes := #[41] }, type := 4, pos := "l7_mail.go:99", after := #[{ on := 6, ground := Ground.data }, { on := 7, ground := Ground.data }, { on := 2, ground := Ground.chain }, { on := 2, ground := Ground.guard }], guard := some (2, false) }) (v := undef) rfl (by kernel_rfl) (by kernel_rfl) (by kernel_rfl) (fun _ _ _ h => h) (Or.inr ⟨by rfl, rfl⟩) (by assumption) ?_
              try simp only [Act.put, List.setIfInBounds_toArray, List.set_cons_zero, List.set_cons_succ]
              refine wpAnyH_take (i := 9) (oi := { dst := some 60, op := Op.unOp UnOp.not 4 (Operand.tmp 59), type := 4, pos := "l7_mail.go:99", after := #[{ on := 8, ground := Ground.data }, { on := 2, ground := Ground.guard }], guard := some (2, false) }) (v := undef) rfl (by kernel_rfl) (by kernel_rfl) (by kernel_rfl) (fun _ _ _ h => h) (Or.inr ⟨by rfl, rfl⟩) (by assumption) ?_
              try simp only [Act.put, List.setIfInBounds_toArray, List.set_cons_zero, List.set_cons_succ]
              refine wpAnyH_take (i := 10) (oi := { dst := some 61, op := Op.pick (Operand.tmp 53) (Operand.const (Value.bool true)) (Operand.tmp 60), type := 4, pos := "l7_mail.go:99", after := #[{ on := 2, ground := Ground.data }, { on := 9, ground := Ground.data }], guard := none }) (v := ?_) rfl (by kernel_rfl) (by kernel_rfl) (by kernel_rfl) (fun _ _ _ h => h) (Or.inl ⟨by rfl, ?_⟩) (by assumption) ?_
              rotate_left
              · intro wq hSw
                (try dsimp only at hSw)
                go_simp
                try with_reducible rfl
              try simp only [Act.put, List.setIfInBounds_toArray, List.set_cons_zero, List.set_cons_succ]
              refine wpAnyH_done (by kernel_rfl) ?_ _
              clear hHeld
              go_wp2_with (refine wpList_store_blk rfl 41 (.tmp 2) (.tmp 62) rfl w.heap.size 0 rfl zG rfl (blk_some (BlkAt.drewW HRU.out) zG rfl) (OpnAt.drewW HOU.out) (by simp [zG, Value.oneCell']) (by kernel_rfl) rfl ?_)
              exact finM_no HN.out rfl rfl rfl (BlkAt.drewW HRU.out) hBU.drew
            · have HKD : Hid (x.kd = 1) := hkd rfl
              go_wp2_with fail
              refine wp_region_held_drew (S := (fun u => BlkAt u Bm (x.c ai ci) ∧ u.cell? ⟨Wb, 5, none⟩ = some (.func (.func 76) #[] #[]))) (by kernel_rfl) ?_ (fun hHeld => ?_)
              · exact ⟨HM.out, HWU.out 5 _ rfl⟩
              refine wpAnyH_take (i := 0) (oi := { dst := some 51, op := Op.move (Operand.tmp 12), type := 4, pos := "l7_mail.go:99", after := #[], guard := none }) (v := ?_) rfl (by kernel_rfl) (by kernel_rfl) (by kernel_rfl) (fun _ _ _ h => h) (Or.inl ⟨by rfl, ?_⟩) (by assumption) ?_
              rotate_left
              · intro wq hSw
                (try dsimp only at hSw)
                go_simp
                try with_reducible rfl
              try simp only [Act.put, List.setIfInBounds_toArray, List.set_cons_zero, List.set_cons_succ]
              refine wpAnyH_take (i := 1) (oi := { dst := some 52, op := Op.unOp UnOp.not 4 (Operand.tmp 51), type := 4, pos := "l7_mail.go:99", after := #[{ on := 0, ground := Ground.data }], guard := none }) (v := ?_) rfl (by kernel_rfl) (by kernel_rfl) (by kernel_rfl) (fun _ _ _ h => h) (Or.inl ⟨by rfl, ?_⟩) (by assumption) ?_
              rotate_left
              · intro wq hSw
                (try dsimp only at hSw)
                go_simp
                try with_reducible rfl
              try simp only [Act.put, List.setIfInBounds_toArray, List.set_cons_zero, List.set_cons_succ]
              refine wpAnyH_take (i := 2) (oi := { dst := some 53, op := Op.move (Operand.tmp 52), type := 4, pos := "l7_mail.go:99", after := #[{ on := 1, ground := Ground.data }], guard := none }) (v := ?_) rfl (by kernel_rfl) (by kernel_rfl) (by kernel_rfl) (fun _ _ _ h => h) (Or.inl ⟨by rfl, ?_⟩) (by assumption) ?_
              rotate_left
              · intro wq hSw
                (try dsimp only at hSw)
                go_simp
                try with_reducible rfl
              try simp only [Act.put, List.setIfInBounds_toArray, List.set_cons_zero, List.set_cons_succ]
              refine wpAnyH_take (i := 3) (oi := { dst := some 54, op := Op.move (Operand.tmp 10), type := 3, pos := "l7_mail.go:99", after := #[{ on := 2, ground := Ground.guard }], guard := some (2, false) }) (v := ?_) rfl (by kernel_rfl) (by kernel_rfl) (by kernel_rfl) (fun _ _ _ h => h) (Or.inl ⟨by rfl, ?_⟩) (by assumption) ?_
              rotate_left
              · intro wq hSw
                (try dsimp only at hSw)
                go_simp
                try with_reducible rfl
              try simp only [Act.put, List.setIfInBounds_toArray, List.set_cons_zero, List.set_cons_succ]
              refine wpAnyH_take (i := 4) (oi := { dst := some 55, op := Op.indexAddr 75 (Operand.tmp 9) (Operand.tmp 54), type := 0, pos := "l7_mail.go:99", after := #[{ on := 3, ground := Ground.data }, { on := 2, ground := Ground.guard }], guard := some (2, false) }) (v := ?_) rfl (by kernel_rfl) (by kernel_rfl) (by kernel_rfl) (fun _ _ _ h => h) (Or.inl ⟨by rfl, ?_⟩) (by assumption) ?_
              rotate_left
              · intro wq hSw
                (try dsimp only at hSw)
                go_simp
                try with_reducible rfl
              try simp only [Act.put, List.setIfInBounds_toArray, List.set_cons_zero, List.set_cons_succ]
              refine wpAnyH_take (i := 5) (oi := { dst := some 56, op := Op.fieldAddr 74 (Operand.tmp 55) 1, type := 0, pos := "l7_mail.go:99", after := #[{ on := 4, ground := Ground.data }, { on := 2, ground := Ground.guard }], guard := some (2, false) }) (v := ?_) rfl (by kernel_rfl) (by kernel_rfl) (by kernel_rfl) (fun _ _ _ h => h) (Or.inl ⟨by rfl, ?_⟩) (by assumption) ?_
              rotate_left
              · intro wq hSw
                (try dsimp only at hSw)
                go_simp
                try with_reducible rfl
              try simp only [Act.put, List.setIfInBounds_toArray, List.set_cons_zero, List.set_cons_succ]
              refine wpAnyH_take (i := 6) (oi := { dst := some 57, op := Op.load 60 (Operand.tmp 56), type := 60, pos := "l7_mail.go:99", after := #[{ on := 5, ground := Ground.data }, { on := 2, ground := Ground.guard }], guard := some (2, false) }) (v := ?_) rfl (by kernel_rfl) (by kernel_rfl) (by kernel_rfl) (fun _ _ _ h => h) (Or.inl ⟨by rfl, ?_⟩) (by assumption) ?_
              rotate_left
              · intro wq hSw
                (try dsimp only at hSw)
                go_simp
                try with_reducible rfl
              try simp only [Act.put, List.setIfInBounds_toArray, List.set_cons_zero, List.set_cons_succ]
              refine wpAnyH_take (i := 7) (oi := { dst := some 58, op := Op.load 41 (Operand.tmp 11), type := 41, pos := "l7_mail.go:99", after := #[{ on := 2, ground := Ground.guard }], guard := some (2, false) }) (v := .agg ((x.c ai ci) : List Value).toArray) rfl (by kernel_rfl) (by kernel_rfl) (by kernel_rfl) (fun _ _ _ h => h) (Or.inl ⟨by rfl, ?_⟩) (by assumption) ?_
              · intro wq hSw
                have hq := run_loadVar_blk (P := Tryz.prog) wq Bm 41 (x.c ai ci) _ hSw.1 Tryz.underlying41 rfl (by kernel_rfl)
                have hg := load_ex hq
                first
                  | exact hg
                  | (simp only [execOp, Sem.run_bind, Sem.run_pure]; exact hg)
                  | (unfold execOp; simp only [Sem.run_bind, Sem.run_pure]; exact hg)
              try simp only [Act.put, List.setIfInBounds_toArray, List.set_cons_zero, List.set_cons_succ]
              refine wpAnyH_ready (rs := [8]) (by kernel_rfl) (by simp) ?_
              refine AllReadyH.cons (o := { dst := some 59, op := Op.call { callee := Callee.value (Operand.tmp 57), args := #[Operand.tmp 58], argTypes := #[41] }, type := 4, pos := "l7_mail.go:99", after := #[{ on := 6, ground := Ground.data }, { on := 7, ground := Ground.data }, { on := 2, ground := Ground.chain }, { on := 2, ground := Ground.guard }], guard := some (2, false) }) rfl (fun K hK => ?_) AllReadyH.nil
              go_simp
              refine (c76v x ai ci _ HKD.out hle (lks_below HLK.out.at' ((Below.refl _ _).drew))).mono ?_
              rintro e w6 ⟨⟨r, rfl, hrr⟩, hb6⟩
              have hbd : Below U.heap.size U w6 := ((Below.refl _ _).drew).trans hb6
              have HRR : Hid (r = true ↔ OfferOk x) := hrr
              clear hb6 hrr
              have HM6 : BlkAt w6 Bm (x.c ai ci) := HM.out.below hbd hBm
              have HR6 : BlkAt w6 w.heap.size zG := HRU.out.below hbd hRz
              have HO6 : OpnAt w6 w.heap.size := HOU.out.below hbd hRz
              have hB6 : Below w.heap.size w w6 := hBU.trans (hbd.mono hBU.size)
              have HLK6 : LkOwn w6 (w.heap.size + 1) ai x.ls := lkown_bel HLK.out hbd
              go_wp2_with fail
              clear hHeld
              refine hK.out _ _ ?_ (fun hHeld => ?_)
              · exact ⟨HM6, (hbd.cell (p := ⟨Wb, 5, none⟩) hWz).trans (HWU.out 5 _ rfl)⟩
              clear hK K
              try simp only [Act.put, List.setIfInBounds_toArray, List.set_cons_zero, List.set_cons_succ]
              refine wpAnyH_take (i := 9) (oi := { dst := some 60, op := Op.unOp UnOp.not 4 (Operand.tmp 59), type := 4, pos := "l7_mail.go:99", after := #[{ on := 8, ground := Ground.data }, { on := 2, ground := Ground.guard }], guard := some (2, false) }) (v := ?_) rfl (by kernel_rfl) (by kernel_rfl) (by kernel_rfl) (fun _ _ _ h => h) (Or.inl ⟨by rfl, ?_⟩) (by assumption) ?_
              rotate_left
              · intro wq hSw
                (try dsimp only at hSw)
                go_simp
                try with_reducible rfl
              try simp only [Act.put, List.setIfInBounds_toArray, List.set_cons_zero, List.set_cons_succ]
              refine wpAnyH_take (i := 10) (oi := { dst := some 61, op := Op.pick (Operand.tmp 53) (Operand.const (Value.bool true)) (Operand.tmp 60), type := 4, pos := "l7_mail.go:99", after := #[{ on := 2, ground := Ground.data }, { on := 9, ground := Ground.data }], guard := none }) (v := ?_) rfl (by kernel_rfl) (by kernel_rfl) (by kernel_rfl) (fun _ _ _ h => h) (Or.inl ⟨by rfl, ?_⟩) (by assumption) ?_
              rotate_left
              · intro wq hSw
                (try dsimp only at hSw)
                go_simp
                try with_reducible rfl
              try simp only [Act.put, List.setIfInBounds_toArray, List.set_cons_zero, List.set_cons_succ]
              refine wpAnyH_done (by kernel_rfl) ?_ _
              clear hHeld
              cases r
              · have HN : Hid (RdMail s.data.toList g16z false) := (rdMail_kind (by decide) hen.out hfb.out hwd.out HRD.out).2 (fun h => by
                  have h2 : OfferOk x := by
                    have hq := HKD.out
                    rcases h.2 with ⟨h, h'⟩ | ⟨h, h'⟩ | ⟨h, h'⟩ <;> first | exact h' | (exfalso; omega)
                  exact absurd (HRR.out.2 h2) (by decide)) g16z
                clear HRD
                go_wp2_with (refine wpList_store_blk rfl 41 (.tmp 2) (.tmp 62) rfl w.heap.size 0 rfl zG rfl (blk_some HR6 zG rfl) HO6 (by simp [zG, Value.oneCell']) (by kernel_rfl) rfl ?_)
                exact finM_no HN.out rfl rfl rfl HR6 hB6
              · have HN : Hid (RdMail s.data.toList x true) := (rdMail_kind (by decide) hen.out hfb.out hwd.out HRD.out).1 rfl (.inl ⟨HKD.out, HRR.out.1 rfl⟩)
                clear HRD
                go_wp2_with (first | refine wpList_load_blk rfl 41 (.tmp 11) rfl Bm rfl (x.c ai ci) _ HM6 Tryz.underlying41 rfl (by kernel_rfl) ?_ | refine wpList_store_blk rfl 41 (.tmp 2) (.tmp 63) rfl w.heap.size 0 rfl (x.c ai ci) rfl (blk_some HR6 _ rfl) HO6 (G16.c_one _ _ _) (by kernel_rfl) rfl ?_)
                exact finM_yes x ai ci HN.out hle HLK6 rfl rfl rfl HR6 hB6
        · have e1 : ([111, 102, 102, 101, 114] == (ofL (wordOf f)).toList) = false := by
            rw [ByteArray.toList_eq, ofL_list]
            exact beq_eq_false_iff_ne.2 (fun e => hw e.symm)
          have e2 : ([111, 102, 102, 101, 114] != (ofL (wordOf f)).toList) = true := by rw [bne, e1]; rfl
          have e3 : ¬ [111, 102, 102, 101, 114] = (ofL (wordOf f)).toList := fun e => by rw [← e] at e1; revert e1; decide
          have HNO : Hid (∀ j : Int, 1 ≤ j → j < 2 → wordOf f ≠ wrdP j) := fun j h1 h2 => by
            by_cases hj : j = 1
            · subst hj; exact hw
            · exact hno.out j h1 (by omega)
          clear hw hno
          go_wp2
          go_roundw
          case rel => exact ⟨2, by omega, by omega, by go_num, by first | rfl | trivial, HNO⟩
          case measure => simp [intOf]
      · have hwl := HWA.out 8 _ rfl
        by_cases hw : wordOf f = [116, 117, 114, 110]
        · have hwd : Hid (wordOf f = wrdP 2) := hw
          have hes : ofL (wordOf f) = ⟨#[116, 117, 114, 110]⟩ := by rw [hw]; rfl
          rw [hes]
          clear hw hes
          go_wp2_with fail
          refine wp_region_held_drew (S := (fun u => u.cell? ⟨Wb, 11, none⟩ = some (.func (.func 81) #[] #[]))) (by kernel_rfl) ?_ (fun hHeld => ?_)
          · exact HWA.out 11 _ rfl
          refine wpAnyH_take (i := 0) (oi := { dst := some 41, op := Op.move (Operand.tmp 10), type := 3, pos := "l7_mail.go:98", after := #[], guard := none }) (v := ?_) rfl (by kernel_rfl) (by kernel_rfl) (by kernel_rfl) (fun _ _ _ h => h) (Or.inl ⟨by rfl, ?_⟩) (by assumption) ?_
          rotate_left
          · intro wq hSw
            (try dsimp only at hSw)
            go_simp
            try with_reducible rfl
          try simp only [Act.put, List.setIfInBounds_toArray, List.set_cons_zero, List.set_cons_succ]
          refine wpAnyH_take (i := 1) (oi := { dst := some 42, op := Op.indexAddr 75 (Operand.tmp 9) (Operand.tmp 41), type := 0, pos := "l7_mail.go:98", after := #[{ on := 0, ground := Ground.data }], guard := none }) (v := ?_) rfl (by kernel_rfl) (by kernel_rfl) (by kernel_rfl) (fun _ _ _ h => h) (Or.inl ⟨by rfl, ?_⟩) (by assumption) ?_
          rotate_left
          · intro wq hSw
            (try dsimp only at hSw)
            go_simp
            try with_reducible rfl
          try simp only [Act.put, List.setIfInBounds_toArray, List.set_cons_zero, List.set_cons_succ]
          refine wpAnyH_take (i := 2) (oi := { dst := some 43, op := Op.fieldAddr 74 (Operand.tmp 42) 3, type := 0, pos := "l7_mail.go:98", after := #[{ on := 1, ground := Ground.data }], guard := none }) (v := ?_) rfl (by kernel_rfl) (by kernel_rfl) (by kernel_rfl) (fun _ _ _ h => h) (Or.inl ⟨by rfl, ?_⟩) (by assumption) ?_
          rotate_left
          · intro wq hSw
            (try dsimp only at hSw)
            go_simp
            try with_reducible rfl
          try simp only [Act.put, List.setIfInBounds_toArray, List.set_cons_zero, List.set_cons_succ]
          refine wpAnyH_take (i := 3) (oi := { dst := some 44, op := Op.load 72 (Operand.tmp 43), type := 72, pos := "l7_mail.go:98", after := #[{ on := 2, ground := Ground.data }], guard := none }) (v := ?_) rfl (by kernel_rfl) (by kernel_rfl) (by kernel_rfl) (fun _ _ _ h => h) (Or.inl ⟨by rfl, ?_⟩) (by assumption) ?_
          rotate_left
          · intro wq hSw
            (try dsimp only at hSw)
            go_simp
            try with_reducible rfl
          try simp only [Act.put, List.setIfInBounds_toArray, List.set_cons_zero, List.set_cons_succ]
          refine wpAnyH_take (i := 4) (oi := { dst := some 45, op := Op.move (Operand.tmp 7), type := 9, pos := "l7_mail.go:98", after := #[], guard := none }) (v := ?_) rfl (by kernel_rfl) (by kernel_rfl) (by kernel_rfl) (fun _ _ _ h => h) (Or.inl ⟨by rfl, ?_⟩) (by assumption) ?_
          rotate_left
          · intro wq hSw
            (try dsimp only at hSw)
            go_simp
            try with_reducible rfl
          try simp only [Act.put, List.setIfInBounds_toArray, List.set_cons_zero, List.set_cons_succ]
          refine wpAnyH_take (i := 5) (oi := { dst := some 46, op := Op.move (Operand.tmp 4), type := 80, pos := "l7_mail.go:98", after := #[], guard := none }) (v := ?_) rfl (by kernel_rfl) (by kernel_rfl) (by kernel_rfl) (fun _ _ _ h => h) (Or.inl ⟨by rfl, ?_⟩) (by assumption) ?_
          rotate_left
          · intro wq hSw
            (try dsimp only at hSw)
            go_simp
            try with_reducible rfl
          try simp only [Act.put, List.setIfInBounds_toArray, List.set_cons_zero, List.set_cons_succ]
          refine wpAnyH_take (i := 6) (oi := { dst := some 47, op := Op.slice 80 (Operand.tmp 46) (some (Operand.const (Value.int IntKind.i64 1))) none none, type := 80, pos := "l7_mail.go:98", after := #[{ on := 5, ground := Ground.data }], guard := none }) (v := .slice (some ⟨g, o1, none⟩) b.length b.length) rfl (by kernel_rfl) (by kernel_rfl) (by kernel_rfl) (fun _ _ _ h => h) (Or.inl ⟨by rfl, ?_⟩) (by assumption) ?_
          · intro wq hSw
            (try dsimp only at hSw)
            go_simp
            first | (intro h; omega) | (rw [if_pos (by omega), ho1])
          try simp only [Act.put, List.setIfInBounds_toArray, List.set_cons_zero, List.set_cons_succ]
          refine wpAnyH_ready (rs := [7, 11]) (by kernel_rfl) (by simp) ?_
          refine AllReadyH.cons (o := { dst := some 48, op := Op.call { callee := Callee.value (Operand.tmp 44), args := #[Operand.tmp 45, Operand.tmp 47], argTypes := #[9, 80] }, type := 52, pos := "l7_mail.go:98", after := #[{ on := 3, ground := Ground.data }, { on := 4, ground := Ground.data }, { on := 6, ground := Ground.data }], guard := none }) rfl (fun K hK => ?_) (AllReadyH.cons (o := { dst := some 11, op := Op.alloc 41, type := 0, pos := "l7_mail.go:98", after := #[], guard := none }) rfl (fun K hK => ?_) AllReadyH.nil)
          · go_simp
            refine (c81 (restOf f) b g o1 b.length _ hrs (max_below hm0 ((Below.refl _ _).drew)) hbl (linesIn_below hln0 ((Below.refl _ _).drew)) HBS.out).mono ?_
            rintro e w5 ⟨⟨x, ok, ai, ci, rfl, hrd, hkd, hle, hlk⟩, hb5⟩
            have hbc : Below W0.heap.size W0 w5 := ((Below.refl _ _).drew).trans hb5
            go_wp2_with fail
            clear hHeld
            refine hK.out _ _ ?_ (fun hHeld => ?_)
            · exact (hbc.cell (p := ⟨Wb, 11, none⟩) hWz).trans (HWA.out 11 _ rfl)
            clear hK K
            try simp only [Act.put, List.setIfInBounds_toArray, List.set_cons_zero, List.set_cons_succ]
            refine wpAnyH_take (i := 8) (oi := { dst := some 40, op := Op.move (Operand.tmp 48), type := 52, pos := "l7_mail.go:98", after := #[{ on := 7, ground := Ground.data }], guard := none }) (v := ?_) rfl (by kernel_rfl) (by kernel_rfl) (by kernel_rfl) (fun _ _ _ h => h) (Or.inl ⟨by rfl, ?_⟩) (by assumption) ?_
            rotate_left
            · intro wq hSw
              (try dsimp only at hSw)
              go_simp
              try with_reducible rfl
            try simp only [Act.put, List.setIfInBounds_toArray, List.set_cons_zero, List.set_cons_succ]
            refine wpAnyH_take (i := 9) (oi := { dst := some 49, op := Op.extract (Operand.tmp 40) 0, type := 41, pos := "l7_mail.go:98", after := #[{ on := 8, ground := Ground.data }], guard := none }) (v := ?_) rfl (by kernel_rfl) (by kernel_rfl) (by kernel_rfl) (fun _ _ _ h => h) (Or.inl ⟨by rfl, ?_⟩) (by assumption) ?_
            rotate_left
            · intro wq hSw
              (try dsimp only at hSw)
              go_simp
              try with_reducible rfl
            try simp only [Act.put, List.setIfInBounds_toArray, List.set_cons_zero, List.set_cons_succ]
            refine wpAnyH_take (i := 10) (oi := { dst := some 50, op := Op.extract (Operand.tmp 40) 1, type := 4, pos := "l7_mail.go:98", after := #[{ on := 8, ground := Ground.data }, { on := 12, ground := Ground.gcOnly Departure.lateStores }], guard := none }) (v := ?_) rfl (by kernel_rfl) (by kernel_rfl) (by kernel_rfl) (fun _ _ _ h => h) (Or.inl ⟨by rfl, ?_⟩) (by assumption) ?_
            rotate_left
            · intro wq hSw
              (try dsimp only at hSw)
              go_simp
              try with_reducible rfl
            try simp only [Act.put, List.setIfInBounds_toArray, List.set_cons_zero, List.set_cons_succ]
            have hb5a : Below w5.heap.size w5 (w5.alloc (.cells #[.int .i64 0, .int .i64 0, .int .i64 0, .int .i64 0, .int .i64 0, .string ⟨#[]⟩, .string ⟨#[]⟩, .string ⟨#[]⟩, .slice none 0 0, .int .i64 0, .bool false, .int .i64 0, .string ⟨#[]⟩, .bool false, .string ⟨#[]⟩, .int .i64 0] 41)) := (Below.refl _ _).alloc (Nat.le_refl _) _
            have hza : (w5.alloc (.cells #[.int .i64 0, .int .i64 0, .int .i64 0, .int .i64 0, .int .i64 0, .string ⟨#[]⟩, .string ⟨#[]⟩, .string ⟨#[]⟩, .slice none 0 0, .int .i64 0, .bool false, .int .i64 0, .string ⟨#[]⟩, .bool false, .string ⟨#[]⟩, .int .i64 0] 41)).heap.size = w5.heap.size + 1 := by simp
            refine wpAnyH_ready (rs := [11]) (by kernel_rfl) (by simp) ?_
            refine AllReadyH.cons (o := { dst := some 11, op := Op.alloc 41, type := 0, pos := "l7_mail.go:98", after := #[], guard := none }) rfl (fun K hK => ?_) AllReadyH.nil
            go_simp
            clear hHeld
            refine hK.out _ _ ?_ (fun hHeld => ?_)
            · exact (hb5a.cell (p := ⟨Wb, 11, none⟩) (Nat.lt_of_lt_of_le hWz hbc.size)).trans ((hbc.cell (p := ⟨Wb, 11, none⟩) hWz).trans (HWA.out 11 _ rfl))
            clear hK K
            try simp only [Act.put, List.setIfInBounds_toArray, List.set_cons_zero, List.set_cons_succ]
            refine wpAnyH_ready (rs := [12]) (by kernel_rfl) (by simp) ?_
            refine AllReadyH.cons (o := { dst := none, op := Op.store 41 (Operand.tmp 11) (Operand.tmp 49), type := 0, pos := "l7_mail.go:98", after := #[{ on := 11, ground := Ground.data }, { on := 9, ground := Ground.data }, { on := 7, ground := Ground.chain }, { on := 0, ground := Ground.phase }, { on := 1, ground := Ground.phase }, { on := 2, ground := Ground.phase }, { on := 3, ground := Ground.phase }, { on := 4, ground := Ground.phase }, { on := 5, ground := Ground.phase }, { on := 6, ground := Ground.phase }, { on := 7, ground := Ground.phase }, { on := 8, ground := Ground.phase }, { on := 9, ground := Ground.phase }, { on := 10, ground := Ground.textOnly Departure.lateStores }, { on := 11, ground := Ground.phase }], guard := none }) rfl (fun K hK => ?_) AllReadyH.nil
            refine step_store_blk rfl 41 (.tmp 11) (.tmp 49) rfl w5.heap.size 0 rfl (x.c ai ci) rfl (blk_some (blk_new w5 zG 41) _ rfl) (opn_new w5 _ 41) (G16.c_one _ _ _) (by kernel_rfl) rfl ?_
            clear hHeld
            refine hK.out _ _ ?_ (fun hHeld => ?_)
            · exact (cell_fill _ 0 ⟨Wb, 11, none⟩ (by show Wb ≠ w5.heap.size; have := hbc.size; omega)).trans ((hb5a.cell (p := ⟨Wb, 11, none⟩) (Nat.lt_of_lt_of_le hWz hbc.size)).trans ((hbc.cell (p := ⟨Wb, 11, none⟩) hWz).trans (HWA.out 11 _ rfl)))
            clear hK K
            try simp only [Act.put, List.setIfInBounds_toArray, List.set_cons_zero, List.set_cons_succ]
            refine wpAnyH_take (i := 13) (oi := { dst := some 12, op := Op.assign (Operand.tmp 50), type := 4, pos := "l7_mail.go:98", after := #[{ on := 10, ground := Ground.data }, { on := 12, ground := Ground.chain }, { on := 0, ground := Ground.phase }, { on := 1, ground := Ground.phase }, { on := 2, ground := Ground.phase }, { on := 3, ground := Ground.phase }, { on := 4, ground := Ground.phase }, { on := 5, ground := Ground.phase }, { on := 6, ground := Ground.phase }, { on := 7, ground := Ground.phase }, { on := 8, ground := Ground.phase }, { on := 9, ground := Ground.phase }, { on := 10, ground := Ground.phase }, { on := 11, ground := Ground.phase }, { on := 12, ground := Ground.phase }], guard := none }) (v := ?_) rfl (by kernel_rfl) (by kernel_rfl) (by kernel_rfl) (fun _ _ _ h => h) (Or.inl ⟨by rfl, ?_⟩) (by assumption) ?_
            rotate_left
            · intro wq hSw
              (try dsimp only at hSw)
              go_simp
              try with_reducible rfl
            try simp only [Act.put, List.setIfInBounds_toArray, List.set_cons_zero, List.set_cons_succ]
            refine wpAnyH_done (by kernel_rfl) ?_ _
            clear hHeld
            have hz5 : W0.heap.size ≤ w5.heap.size := hbc.size
            obtain ⟨U, hU⟩ : ∃ U, U = fill (w5.alloc (.cells #[.int .i64 0, .int .i64 0, .int .i64 0, .int .i64 0, .int .i64 0, .string ⟨#[]⟩, .string ⟨#[]⟩, .string ⟨#[]⟩, .slice none 0 0, .int .i64 0, .bool false, .int .i64 0, .string ⟨#[]⟩, .bool false, .string ⟨#[]⟩, .int .i64 0] 41)) w5.heap.size 0 (x.c ai ci) := ⟨_, rfl⟩
            have hUU : Below w5.heap.size w5 U := hU ▸ below_fill (Nat.le_refl _) _ 0 hb5a
            have hzU : U.heap.size = w5.heap.size + 1 := by rw [hU, size_fill, hza]
            obtain ⟨Bm, hBmE⟩ : ∃ Bm, Bm = w5.heap.size := ⟨_, rfl⟩
            have HM : Hid (BlkAt U Bm (x.c ai ci)) := by
              rw [hU, hBmE]
              exact BlkAt.fill (B := w5.heap.size) (x.c ai ci) [] zG [] 0 (blk_new w5 zG 41) rfl rfl
            have hBm : Bm < U.heap.size := by omega
            have hBW : Below W0.heap.size W0 U := hbc.trans (hUU.mono hz5)
            have HLK : Hid (LkOwn U (w.heap.size + 1) ai x.ls) := lkown_bel (hlk.mono (by show _ ≤ W0.drew.heap.size; simp; omega)) hUU
            rw [← hU]
            rw [← hBmE]
            clear hU hlk hb5 hb5a hUU hza hbc hBmE hzU
            have HWU : Hid (BlkAt U Wb wayL) := HWA.out.below hBW hWz
            have HRU : Hid (BlkAt U w.heap.size zG) := HRA.out.below hBW (by omega)
            have HOU : Hid (OpnAt U w.heap.size) := HOA.out.below hBW (by omega)
            have hBU : Below w.heap.size w U := hBw0.trans (hBW.mono (by omega))
            have hRz : w.heap.size < U.heap.size := Nat.lt_of_lt_of_le hRz0 hBW.size
            have hWz' : Wb < U.heap.size := Nat.lt_of_lt_of_le hWz hBW.size
            have HRD : Hid (RdMsg 2 (restOf f) b x ok) := hrd
            clear hWz
            rename Wb < U.heap.size => hWz
            clear hrd hBW
            cases ok
            · have HN : Hid (RdMail s.data.toList g16z false) := (rdMail_kind (by decide) hen.out hfb.out hwd.out HRD.out).2 (fun h => by cases h.1) g16z
              clear HRD
              go_wp2_with fail
              refine wp_region_held_drew (S := (fun _ => True)) (by kernel_rfl) ?_ (fun hHeld => ?_)
              · ((try dsimp only); (try trivial))
              refine wpAnyH_take (i := 0) (oi := { dst := some 51, op := Op.move (Operand.tmp 12), type := 4, pos := "l7_mail.go:99", after := #[], guard := none }) (v := ?_) rfl (by kernel_rfl) (by kernel_rfl) (by kernel_rfl) (fun _ _ _ h => h) (Or.inl ⟨by rfl, ?_⟩) (by assumption) ?_
              rotate_left
              · intro wq hSw
                (try dsimp only at hSw)
                go_simp
                try with_reducible rfl
              try simp only [Act.put, List.setIfInBounds_toArray, List.set_cons_zero, List.set_cons_succ]
              refine wpAnyH_take (i := 1) (oi := { dst := some 52, op := Op.unOp UnOp.not 4 (Operand.tmp 51), type := 4, pos := "l7_mail.go:99", after := #[{ on := 0, ground := Ground.data }], guard := none }) (v := ?_) rfl (by kernel_rfl) (by kernel_rfl) (by kernel_rfl) (fun _ _ _ h => h) (Or.inl ⟨by rfl, ?_⟩) (by assumption) ?_
              rotate_left
              · intro wq hSw
                (try dsimp only at hSw)
                go_simp
                try with_reducible rfl
              try simp only [Act.put, List.setIfInBounds_toArray, List.set_cons_zero, List.set_cons_succ]
              refine wpAnyH_take (i := 2) (oi := { dst := some 53, op := Op.move (Operand.tmp 52), type := 4, pos := "l7_mail.go:99", after := #[{ on := 1, ground := Ground.data }], guard := none }) (v := ?_) rfl (by kernel_rfl) (by kernel_rfl) (by kernel_rfl) (fun _ _ _ h => h) (Or.inl ⟨by rfl, ?_⟩) (by assumption) ?_
              rotate_left
              · intro wq hSw
                (try dsimp only at hSw)
                go_simp
                try with_reducible rfl
              try simp only [Act.put, List.setIfInBounds_toArray, List.set_cons_zero, List.set_cons_succ]
              refine wpAnyH_take (i := 3) (oi := { dst := some 54, op := Op.move (Operand.tmp 10), type := 3, pos := "l7_mail.go:99", after := #[{ on := 2, ground := Ground.guard }], guard := some (2, false) }) (v := undef) rfl (by kernel_rfl) (by kernel_rfl) (by kernel_rfl) (fun _ _ _ h => h) (Or.inr ⟨by rfl, rfl⟩) (by assumption) ?_
              try simp only [Act.put, List.setIfInBounds_toArray, List.set_cons_zero, List.set_cons_succ]
              refine wpAnyH_take (i := 4) (oi := { dst := some 55, op := Op.indexAddr 75 (Operand.tmp 9) (Operand.tmp 54), type := 0, pos := "l7_mail.go:99", after := #[{ on := 3, ground := Ground.data }, { on := 2, ground := Ground.guard }], guard := some (2, false) }) (v := undef) rfl (by kernel_rfl) (by kernel_rfl) (by kernel_rfl) (fun _ _ _ h => h) (Or.inr ⟨by rfl, rfl⟩) (by assumption) ?_
              try simp only [Act.put, List.setIfInBounds_toArray, List.set_cons_zero, List.set_cons_succ]
              refine wpAnyH_take (i := 5) (oi := { dst := some 56, op := Op.fieldAddr 74 (Operand.tmp 55) 1, type := 0, pos := "l7_mail.go:99", after := #[{ on := 4, ground := Ground.data }, { on := 2, ground := Ground.guard }], guard := some (2, false) }) (v := undef) rfl (by kernel_rfl) (by kernel_rfl) (by kernel_rfl) (fun _ _ _ h => h) (Or.inr ⟨by rfl, rfl⟩) (by assumption) ?_
              try simp only [Act.put, List.setIfInBounds_toArray, List.set_cons_zero, List.set_cons_succ]
              refine wpAnyH_take (i := 6) (oi := { dst := some 57, op := Op.load 60 (Operand.tmp 56), type := 60, pos := "l7_mail.go:99", after := #[{ on := 5, ground := Ground.data }, { on := 2, ground := Ground.guard }], guard := some (2, false) }) (v := undef) rfl (by kernel_rfl) (by kernel_rfl) (by kernel_rfl) (fun _ _ _ h => h) (Or.inr ⟨by rfl, rfl⟩) (by assumption) ?_
              try simp only [Act.put, List.setIfInBounds_toArray, List.set_cons_zero, List.set_cons_succ]
              refine wpAnyH_take (i := 7) (oi := { dst := some 58, op := Op.load 41 (Operand.tmp 11), type := 41, pos := "l7_mail.go:99", after := #[{ on := 2, ground := Ground.guard }], guard := some (2, false) }) (v := undef) rfl (by kernel_rfl) (by kernel_rfl) (by kernel_rfl) (fun _ _ _ h => h) (Or.inr ⟨by rfl, rfl⟩) (by assumption) ?_
              try simp only [Act.put, List.setIfInBounds_toArray, List.set_cons_zero, List.set_cons_succ]
              refine wpAnyH_take (i := 8) (oi := { dst := some 59, op := Op.call { callee := Callee.value (Operand.tmp 57), args := #[Operand.tmp 58], argTypes := #[41] }, type := 4, pos := "l7_mail.go:99", after := #[{ on := 6, ground := Ground.data }, { on := 7, ground := Ground.data }, { on := 2, ground := Ground.chain }, { on := 2, ground := Ground.guard }], guard := some (2, false) }) (v := undef) rfl (by kernel_rfl) (by kernel_rfl) (by kernel_rfl) (fun _ _ _ h => h) (Or.inr ⟨by rfl, rfl⟩) (by assumption) ?_
              try simp only [Act.put, List.setIfInBounds_toArray, List.set_cons_zero, List.set_cons_succ]
              refine wpAnyH_take (i := 9) (oi := { dst := some 60, op := Op.unOp UnOp.not 4 (Operand.tmp 59), type := 4, pos := "l7_mail.go:99", after := #[{ on := 8, ground := Ground.data }, { on := 2, ground := Ground.guard }], guard := some (2, false) }) (v := undef) rfl (by kernel_rfl) (by kernel_rfl) (by kernel_rfl) (fun _ _ _ h => h) (Or.inr ⟨by rfl, rfl⟩) (by assumption) ?_
              try simp only [Act.put, List.setIfInBounds_toArray, List.set_cons_zero, List.set_cons_succ]
              refine wpAnyH_take (i := 10) (oi := { dst := some 61, op := Op.pick (Operand.tmp 53) (Operand.const (Value.bool true)) (Operand.tmp 60), type := 4, pos := "l7_mail.go:99", after := #[{ on := 2, ground := Ground.data }, { on := 9, ground := Ground.data }], guard := none }) (v := ?_) rfl (by kernel_rfl) (by kernel_rfl) (by kernel_rfl) (fun _ _ _ h => h) (Or.inl ⟨by rfl, ?_⟩) (by assumption) ?_
              rotate_left
              · intro wq hSw
                (try dsimp only at hSw)
                go_simp
                try with_reducible rfl
              try simp only [Act.put, List.setIfInBounds_toArray, List.set_cons_zero, List.set_cons_succ]
              refine wpAnyH_done (by kernel_rfl) ?_ _
              clear hHeld
              go_wp2_with (refine wpList_store_blk rfl 41 (.tmp 2) (.tmp 62) rfl w.heap.size 0 rfl zG rfl (blk_some (BlkAt.drewW HRU.out) zG rfl) (OpnAt.drewW HOU.out) (by simp [zG, Value.oneCell']) (by kernel_rfl) rfl ?_)
              exact finM_no HN.out rfl rfl rfl (BlkAt.drewW HRU.out) hBU.drew
            · have HKD : Hid (x.kd = 2) := hkd rfl
              go_wp2_with fail
              refine wp_region_held_drew (S := (fun u => BlkAt u Bm (x.c ai ci) ∧ u.cell? ⟨Wb, 9, none⟩ = some (.func (.func 79) #[] #[]))) (by kernel_rfl) ?_ (fun hHeld => ?_)
              · exact ⟨HM.out, HWU.out 9 _ rfl⟩
              refine wpAnyH_take (i := 0) (oi := { dst := some 51, op := Op.move (Operand.tmp 12), type := 4, pos := "l7_mail.go:99", after := #[], guard := none }) (v := ?_) rfl (by kernel_rfl) (by kernel_rfl) (by kernel_rfl) (fun _ _ _ h => h) (Or.inl ⟨by rfl, ?_⟩) (by assumption) ?_
              rotate_left
              · intro wq hSw
                (try dsimp only at hSw)
                go_simp
                try with_reducible rfl
              try simp only [Act.put, List.setIfInBounds_toArray, List.set_cons_zero, List.set_cons_succ]
              refine wpAnyH_take (i := 1) (oi := { dst := some 52, op := Op.unOp UnOp.not 4 (Operand.tmp 51), type := 4, pos := "l7_mail.go:99", after := #[{ on := 0, ground := Ground.data }], guard := none }) (v := ?_) rfl (by kernel_rfl) (by kernel_rfl) (by kernel_rfl) (fun _ _ _ h => h) (Or.inl ⟨by rfl, ?_⟩) (by assumption) ?_
              rotate_left
              · intro wq hSw
                (try dsimp only at hSw)
                go_simp
                try with_reducible rfl
              try simp only [Act.put, List.setIfInBounds_toArray, List.set_cons_zero, List.set_cons_succ]
              refine wpAnyH_take (i := 2) (oi := { dst := some 53, op := Op.move (Operand.tmp 52), type := 4, pos := "l7_mail.go:99", after := #[{ on := 1, ground := Ground.data }], guard := none }) (v := ?_) rfl (by kernel_rfl) (by kernel_rfl) (by kernel_rfl) (fun _ _ _ h => h) (Or.inl ⟨by rfl, ?_⟩) (by assumption) ?_
              rotate_left
              · intro wq hSw
                (try dsimp only at hSw)
                go_simp
                try with_reducible rfl
              try simp only [Act.put, List.setIfInBounds_toArray, List.set_cons_zero, List.set_cons_succ]
              refine wpAnyH_take (i := 3) (oi := { dst := some 54, op := Op.move (Operand.tmp 10), type := 3, pos := "l7_mail.go:99", after := #[{ on := 2, ground := Ground.guard }], guard := some (2, false) }) (v := ?_) rfl (by kernel_rfl) (by kernel_rfl) (by kernel_rfl) (fun _ _ _ h => h) (Or.inl ⟨by rfl, ?_⟩) (by assumption) ?_
              rotate_left
              · intro wq hSw
                (try dsimp only at hSw)
                go_simp
                try with_reducible rfl
              try simp only [Act.put, List.setIfInBounds_toArray, List.set_cons_zero, List.set_cons_succ]
              refine wpAnyH_take (i := 4) (oi := { dst := some 55, op := Op.indexAddr 75 (Operand.tmp 9) (Operand.tmp 54), type := 0, pos := "l7_mail.go:99", after := #[{ on := 3, ground := Ground.data }, { on := 2, ground := Ground.guard }], guard := some (2, false) }) (v := ?_) rfl (by kernel_rfl) (by kernel_rfl) (by kernel_rfl) (fun _ _ _ h => h) (Or.inl ⟨by rfl, ?_⟩) (by assumption) ?_
              rotate_left
              · intro wq hSw
                (try dsimp only at hSw)
                go_simp
                try with_reducible rfl
              try simp only [Act.put, List.setIfInBounds_toArray, List.set_cons_zero, List.set_cons_succ]
              refine wpAnyH_take (i := 5) (oi := { dst := some 56, op := Op.fieldAddr 74 (Operand.tmp 55) 1, type := 0, pos := "l7_mail.go:99", after := #[{ on := 4, ground := Ground.data }, { on := 2, ground := Ground.guard }], guard := some (2, false) }) (v := ?_) rfl (by kernel_rfl) (by kernel_rfl) (by kernel_rfl) (fun _ _ _ h => h) (Or.inl ⟨by rfl, ?_⟩) (by assumption) ?_
              rotate_left
              · intro wq hSw
                (try dsimp only at hSw)
                go_simp
                try with_reducible rfl
              try simp only [Act.put, List.setIfInBounds_toArray, List.set_cons_zero, List.set_cons_succ]
              refine wpAnyH_take (i := 6) (oi := { dst := some 57, op := Op.load 60 (Operand.tmp 56), type := 60, pos := "l7_mail.go:99", after := #[{ on := 5, ground := Ground.data }, { on := 2, ground := Ground.guard }], guard := some (2, false) }) (v := ?_) rfl (by kernel_rfl) (by kernel_rfl) (by kernel_rfl) (fun _ _ _ h => h) (Or.inl ⟨by rfl, ?_⟩) (by assumption) ?_
              rotate_left
              · intro wq hSw
                (try dsimp only at hSw)
                go_simp
                try with_reducible rfl
              try simp only [Act.put, List.setIfInBounds_toArray, List.set_cons_zero, List.set_cons_succ]
              refine wpAnyH_take (i := 7) (oi := { dst := some 58, op := Op.load 41 (Operand.tmp 11), type := 41, pos := "l7_mail.go:99", after := #[{ on := 2, ground := Ground.guard }], guard := some (2, false) }) (v := .agg ((x.c ai ci) : List Value).toArray) rfl (by kernel_rfl) (by kernel_rfl) (by kernel_rfl) (fun _ _ _ h => h) (Or.inl ⟨by rfl, ?_⟩) (by assumption) ?_
              · intro wq hSw
                have hq := run_loadVar_blk (P := Tryz.prog) wq Bm 41 (x.c ai ci) _ hSw.1 Tryz.underlying41 rfl (by kernel_rfl)
                have hg := load_ex hq
                first
                  | exact hg
                  | (simp only [execOp, Sem.run_bind, Sem.run_pure]; exact hg)
                  | (unfold execOp; simp only [Sem.run_bind, Sem.run_pure]; exact hg)
              try simp only [Act.put, List.setIfInBounds_toArray, List.set_cons_zero, List.set_cons_succ]
              refine wpAnyH_ready (rs := [8]) (by kernel_rfl) (by simp) ?_
              refine AllReadyH.cons (o := { dst := some 59, op := Op.call { callee := Callee.value (Operand.tmp 57), args := #[Operand.tmp 58], argTypes := #[41] }, type := 4, pos := "l7_mail.go:99", after := #[{ on := 6, ground := Ground.data }, { on := 7, ground := Ground.data }, { on := 2, ground := Ground.chain }, { on := 2, ground := Ground.guard }], guard := some (2, false) }) rfl (fun K hK => ?_) AllReadyH.nil
              go_simp
              refine (c79v x ai ci _ HKD.out hle (lks_below HLK.out.at' ((Below.refl _ _).drew))).mono ?_
              rintro e w6 ⟨⟨r, rfl, hrr⟩, hb6⟩
              have hbd : Below U.heap.size U w6 := ((Below.refl _ _).drew).trans hb6
              have HRR : Hid (r = true ↔ TurnOkM x) := hrr
              clear hb6 hrr
              have HM6 : BlkAt w6 Bm (x.c ai ci) := HM.out.below hbd hBm
              have HR6 : BlkAt w6 w.heap.size zG := HRU.out.below hbd hRz
              have HO6 : OpnAt w6 w.heap.size := HOU.out.below hbd hRz
              have hB6 : Below w.heap.size w w6 := hBU.trans (hbd.mono hBU.size)
              have HLK6 : LkOwn w6 (w.heap.size + 1) ai x.ls := lkown_bel HLK.out hbd
              go_wp2_with fail
              clear hHeld
              refine hK.out _ _ ?_ (fun hHeld => ?_)
              · exact ⟨HM6, (hbd.cell (p := ⟨Wb, 9, none⟩) hWz).trans (HWU.out 9 _ rfl)⟩
              clear hK K
              try simp only [Act.put, List.setIfInBounds_toArray, List.set_cons_zero, List.set_cons_succ]
              refine wpAnyH_take (i := 9) (oi := { dst := some 60, op := Op.unOp UnOp.not 4 (Operand.tmp 59), type := 4, pos := "l7_mail.go:99", after := #[{ on := 8, ground := Ground.data }, { on := 2, ground := Ground.guard }], guard := some (2, false) }) (v := ?_) rfl (by kernel_rfl) (by kernel_rfl) (by kernel_rfl) (fun _ _ _ h => h) (Or.inl ⟨by rfl, ?_⟩) (by assumption) ?_
              rotate_left
              · intro wq hSw
                (try dsimp only at hSw)
                go_simp
                try with_reducible rfl
              try simp only [Act.put, List.setIfInBounds_toArray, List.set_cons_zero, List.set_cons_succ]
              refine wpAnyH_take (i := 10) (oi := { dst := some 61, op := Op.pick (Operand.tmp 53) (Operand.const (Value.bool true)) (Operand.tmp 60), type := 4, pos := "l7_mail.go:99", after := #[{ on := 2, ground := Ground.data }, { on := 9, ground := Ground.data }], guard := none }) (v := ?_) rfl (by kernel_rfl) (by kernel_rfl) (by kernel_rfl) (fun _ _ _ h => h) (Or.inl ⟨by rfl, ?_⟩) (by assumption) ?_
              rotate_left
              · intro wq hSw
                (try dsimp only at hSw)
                go_simp
                try with_reducible rfl
              try simp only [Act.put, List.setIfInBounds_toArray, List.set_cons_zero, List.set_cons_succ]
              refine wpAnyH_done (by kernel_rfl) ?_ _
              clear hHeld
              cases r
              · have HN : Hid (RdMail s.data.toList g16z false) := (rdMail_kind (by decide) hen.out hfb.out hwd.out HRD.out).2 (fun h => by
                  have h2 : TurnOkM x := by
                    have hq := HKD.out
                    rcases h.2 with ⟨h, h'⟩ | ⟨h, h'⟩ | ⟨h, h'⟩ <;> first | exact h' | (exfalso; omega)
                  exact absurd (HRR.out.2 h2) (by decide)) g16z
                clear HRD
                go_wp2_with (refine wpList_store_blk rfl 41 (.tmp 2) (.tmp 62) rfl w.heap.size 0 rfl zG rfl (blk_some HR6 zG rfl) HO6 (by simp [zG, Value.oneCell']) (by kernel_rfl) rfl ?_)
                exact finM_no HN.out rfl rfl rfl HR6 hB6
              · have HN : Hid (RdMail s.data.toList x true) := (rdMail_kind (by decide) hen.out hfb.out hwd.out HRD.out).1 rfl (.inr (.inl ⟨HKD.out, HRR.out.1 rfl⟩))
                clear HRD
                go_wp2_with (first | refine wpList_load_blk rfl 41 (.tmp 11) rfl Bm rfl (x.c ai ci) _ HM6 Tryz.underlying41 rfl (by kernel_rfl) ?_ | refine wpList_store_blk rfl 41 (.tmp 2) (.tmp 63) rfl w.heap.size 0 rfl (x.c ai ci) rfl (blk_some HR6 _ rfl) HO6 (G16.c_one _ _ _) (by kernel_rfl) rfl ?_)
                exact finM_yes x ai ci HN.out hle HLK6 rfl rfl rfl HR6 hB6
          · have hWB : Below W0.heap.size W0 (W0.alloc (.cells #[.int .i64 0, .int .i64 0, .int .i64 0, .int .i64 0, .int .i64 0, .string ⟨#[]⟩, .string ⟨#[]⟩, .string ⟨#[]⟩, .slice none 0 0, .int .i64 0, .bool false, .int .i64 0, .string ⟨#[]⟩, .bool false, .string ⟨#[]⟩, .int .i64 0] 41)).drew := ((Below.refl _ _).alloc (Nat.le_refl _) _).drew
            have hNB : BlkAt (W0.alloc (.cells #[.int .i64 0, .int .i64 0, .int .i64 0, .int .i64 0, .int .i64 0, .string ⟨#[]⟩, .string ⟨#[]⟩, .string ⟨#[]⟩, .slice none 0 0, .int .i64 0, .bool false, .int .i64 0, .string ⟨#[]⟩, .bool false, .string ⟨#[]⟩, .int .i64 0] 41)).drew W0.heap.size zG := BlkAt.drewW (blk_new W0 zG 41)
            have hOB : OpnAt (W0.alloc (.cells #[.int .i64 0, .int .i64 0, .int .i64 0, .int .i64 0, .int .i64 0, .string ⟨#[]⟩, .string ⟨#[]⟩, .string ⟨#[]⟩, .slice none 0 0, .int .i64 0, .bool false, .int .i64 0, .string ⟨#[]⟩, .bool false, .string ⟨#[]⟩, .int .i64 0] 41)).drew W0.heap.size := OpnAt.drewW (opn_new W0 _ 41)
            have hzB : (W0.alloc (.cells #[.int .i64 0, .int .i64 0, .int .i64 0, .int .i64 0, .int .i64 0, .string ⟨#[]⟩, .string ⟨#[]⟩, .string ⟨#[]⟩, .slice none 0 0, .int .i64 0, .bool false, .int .i64 0, .string ⟨#[]⟩, .bool false, .string ⟨#[]⟩, .int .i64 0] 41)).drew.heap.size = W0.heap.size + 1 := by simp
            go_simp
            clear hHeld
            refine hK.out _ _ ?_ (fun hHeld => ?_)
            · exact (hWB.cell (p := ⟨Wb, 11, none⟩) hWz).trans (HWA.out 11 _ rfl)
            clear hK K
            try simp only [Act.put, List.setIfInBounds_toArray, List.set_cons_zero, List.set_cons_succ]
            refine wpAnyH_ready (rs := [7]) (by kernel_rfl) (by simp) ?_
            refine AllReadyH.cons (o := { dst := some 48, op := Op.call { callee := Callee.value (Operand.tmp 44), args := #[Operand.tmp 45, Operand.tmp 47], argTypes := #[9, 80] }, type := 52, pos := "l7_mail.go:98", after := #[{ on := 3, ground := Ground.data }, { on := 4, ground := Ground.data }, { on := 6, ground := Ground.data }], guard := none }) rfl (fun K hK => ?_) AllReadyH.nil
            go_simp
            refine (c81 (restOf f) b g o1 b.length _ hrs (max_below hm0 hWB) hbl (linesIn_below hln0 hWB) HBS.out).mono ?_
            rintro e w5 ⟨⟨x, ok, ai, ci, rfl, hrd, hkd, hle, hlk⟩, hb5⟩
            have hbc : Below W0.heap.size W0 w5 := hWB.trans (hb5.mono (by rw [hzB]; omega))
            go_wp2_with fail
            clear hHeld
            refine hK.out _ _ ?_ (fun hHeld => ?_)
            · exact (hbc.cell (p := ⟨Wb, 11, none⟩) hWz).trans (HWA.out 11 _ rfl)
            clear hK K
            try simp only [Act.put, List.setIfInBounds_toArray, List.set_cons_zero, List.set_cons_succ]
            refine wpAnyH_take (i := 8) (oi := { dst := some 40, op := Op.move (Operand.tmp 48), type := 52, pos := "l7_mail.go:98", after := #[{ on := 7, ground := Ground.data }], guard := none }) (v := ?_) rfl (by kernel_rfl) (by kernel_rfl) (by kernel_rfl) (fun _ _ _ h => h) (Or.inl ⟨by rfl, ?_⟩) (by assumption) ?_
            rotate_left
            · intro wq hSw
              (try dsimp only at hSw)
              go_simp
              try with_reducible rfl
            try simp only [Act.put, List.setIfInBounds_toArray, List.set_cons_zero, List.set_cons_succ]
            refine wpAnyH_take (i := 9) (oi := { dst := some 49, op := Op.extract (Operand.tmp 40) 0, type := 41, pos := "l7_mail.go:98", after := #[{ on := 8, ground := Ground.data }], guard := none }) (v := ?_) rfl (by kernel_rfl) (by kernel_rfl) (by kernel_rfl) (fun _ _ _ h => h) (Or.inl ⟨by rfl, ?_⟩) (by assumption) ?_
            rotate_left
            · intro wq hSw
              (try dsimp only at hSw)
              go_simp
              try with_reducible rfl
            try simp only [Act.put, List.setIfInBounds_toArray, List.set_cons_zero, List.set_cons_succ]
            refine wpAnyH_take (i := 10) (oi := { dst := some 50, op := Op.extract (Operand.tmp 40) 1, type := 4, pos := "l7_mail.go:98", after := #[{ on := 8, ground := Ground.data }, { on := 12, ground := Ground.gcOnly Departure.lateStores }], guard := none }) (v := ?_) rfl (by kernel_rfl) (by kernel_rfl) (by kernel_rfl) (fun _ _ _ h => h) (Or.inl ⟨by rfl, ?_⟩) (by assumption) ?_
            rotate_left
            · intro wq hSw
              (try dsimp only at hSw)
              go_simp
              try with_reducible rfl
            try simp only [Act.put, List.setIfInBounds_toArray, List.set_cons_zero, List.set_cons_succ]
            have hN5 : BlkAt w5 W0.heap.size zG := hNB.below hb5 (by rw [hzB]; omega)
            have hO5 : OpnAt w5 W0.heap.size := hOB.below hb5 (by rw [hzB]; omega)
            refine wpAnyH_ready (rs := [12]) (by kernel_rfl) (by simp) ?_
            refine AllReadyH.cons (o := { dst := none, op := Op.store 41 (Operand.tmp 11) (Operand.tmp 49), type := 0, pos := "l7_mail.go:98", after := #[{ on := 11, ground := Ground.data }, { on := 9, ground := Ground.data }, { on := 7, ground := Ground.chain }, { on := 0, ground := Ground.phase }, { on := 1, ground := Ground.phase }, { on := 2, ground := Ground.phase }, { on := 3, ground := Ground.phase }, { on := 4, ground := Ground.phase }, { on := 5, ground := Ground.phase }, { on := 6, ground := Ground.phase }, { on := 7, ground := Ground.phase }, { on := 8, ground := Ground.phase }, { on := 9, ground := Ground.phase }, { on := 10, ground := Ground.textOnly Departure.lateStores }, { on := 11, ground := Ground.phase }], guard := none }) rfl (fun K hK => ?_) AllReadyH.nil
            refine step_store_blk rfl 41 (.tmp 11) (.tmp 49) rfl W0.heap.size 0 rfl (x.c ai ci) rfl (blk_some hN5 _ rfl) hO5 (G16.c_one _ _ _) (by kernel_rfl) rfl ?_
            clear hHeld
            refine hK.out _ _ ?_ (fun hHeld => ?_)
            · exact (cell_fill _ 0 ⟨Wb, 11, none⟩ (by show Wb ≠ W0.heap.size; omega)).trans ((hbc.cell (p := ⟨Wb, 11, none⟩) hWz).trans (HWA.out 11 _ rfl))
            clear hK K
            try simp only [Act.put, List.setIfInBounds_toArray, List.set_cons_zero, List.set_cons_succ]
            refine wpAnyH_take (i := 13) (oi := { dst := some 12, op := Op.assign (Operand.tmp 50), type := 4, pos := "l7_mail.go:98", after := #[{ on := 10, ground := Ground.data }, { on := 12, ground := Ground.chain }, { on := 0, ground := Ground.phase }, { on := 1, ground := Ground.phase }, { on := 2, ground := Ground.phase }, { on := 3, ground := Ground.phase }, { on := 4, ground := Ground.phase }, { on := 5, ground := Ground.phase }, { on := 6, ground := Ground.phase }, { on := 7, ground := Ground.phase }, { on := 8, ground := Ground.phase }, { on := 9, ground := Ground.phase }, { on := 10, ground := Ground.phase }, { on := 11, ground := Ground.phase }, { on := 12, ground := Ground.phase }], guard := none }) (v := ?_) rfl (by kernel_rfl) (by kernel_rfl) (by kernel_rfl) (fun _ _ _ h => h) (Or.inl ⟨by rfl, ?_⟩) (by assumption) ?_
            rotate_left
            · intro wq hSw
              (try dsimp only at hSw)
              go_simp
              try with_reducible rfl
            try simp only [Act.put, List.setIfInBounds_toArray, List.set_cons_zero, List.set_cons_succ]
            refine wpAnyH_done (by kernel_rfl) ?_ _
            clear hHeld
            have hz5 : W0.heap.size + 1 ≤ w5.heap.size := by have h := hb5.size; rw [hzB] at h; exact h
            obtain ⟨U, hU⟩ : ∃ U, U = fill w5 W0.heap.size 0 (x.c ai ci) := ⟨_, rfl⟩
            have hzU : U.heap.size = w5.heap.size := by rw [hU, size_fill]
            obtain ⟨Bm, hBmE⟩ : ∃ Bm, Bm = W0.heap.size := ⟨_, rfl⟩
            have HM : Hid (BlkAt U Bm (x.c ai ci)) := by
              rw [hU, hBmE]
              exact BlkAt.fill (B := W0.heap.size) (x.c ai ci) [] zG [] 0 hN5 rfl rfl
            have hBm : Bm < U.heap.size := by omega
            have hBW : Below W0.heap.size W0 U := hU ▸ below_fill (Nat.le_refl _) _ 0 hbc
            have HLK : Hid (LkOwn U (w.heap.size + 1) ai x.ls) := by
              have hlk2 : LkOwn w5 (W0.heap.size + 1) ai x.ls := hlk.mono (by rw [hzB]; exact Nat.le_refl _)
              rw [hU]
              exact (lkown_fill W0.heap.size (x.c ai ci) (by omega) 0 hlk2).mono (by omega)
            rw [← hU]
            rw [← hBmE]
            clear hU hlk hb5 hN5 hO5 hNB hOB hWB hzB hbc hBmE hzU
            have HWU : Hid (BlkAt U Wb wayL) := HWA.out.below hBW hWz
            have HRU : Hid (BlkAt U w.heap.size zG) := HRA.out.below hBW (by omega)
            have HOU : Hid (OpnAt U w.heap.size) := HOA.out.below hBW (by omega)
            have hBU : Below w.heap.size w U := hBw0.trans (hBW.mono (by omega))
            have hRz : w.heap.size < U.heap.size := Nat.lt_of_lt_of_le hRz0 hBW.size
            have hWz' : Wb < U.heap.size := Nat.lt_of_lt_of_le hWz hBW.size
            have HRD : Hid (RdMsg 2 (restOf f) b x ok) := hrd
            clear hWz
            rename Wb < U.heap.size => hWz
            clear hrd hBW
            cases ok
            · have HN : Hid (RdMail s.data.toList g16z false) := (rdMail_kind (by decide) hen.out hfb.out hwd.out HRD.out).2 (fun h => by cases h.1) g16z
              clear HRD
              go_wp2_with fail
              refine wp_region_held_drew (S := (fun _ => True)) (by kernel_rfl) ?_ (fun hHeld => ?_)
              · ((try dsimp only); (try trivial))
              refine wpAnyH_take (i := 0) (oi := { dst := some 51, op := Op.move (Operand.tmp 12), type := 4, pos := "l7_mail.go:99", after := #[], guard := none }) (v := ?_) rfl (by kernel_rfl) (by kernel_rfl) (by kernel_rfl) (fun _ _ _ h => h) (Or.inl ⟨by rfl, ?_⟩) (by assumption) ?_
              rotate_left
              · intro wq hSw
                (try dsimp only at hSw)
                go_simp
                try with_reducible rfl
              try simp only [Act.put, List.setIfInBounds_toArray, List.set_cons_zero, List.set_cons_succ]
              refine wpAnyH_take (i := 1) (oi := { dst := some 52, op := Op.unOp UnOp.not 4 (Operand.tmp 51), type := 4, pos := "l7_mail.go:99", after := #[{ on := 0, ground := Ground.data }], guard := none }) (v := ?_) rfl (by kernel_rfl) (by kernel_rfl) (by kernel_rfl) (fun _ _ _ h => h) (Or.inl ⟨by rfl, ?_⟩) (by assumption) ?_
              rotate_left
              · intro wq hSw
                (try dsimp only at hSw)
                go_simp
                try with_reducible rfl
              try simp only [Act.put, List.setIfInBounds_toArray, List.set_cons_zero, List.set_cons_succ]
              refine wpAnyH_take (i := 2) (oi := { dst := some 53, op := Op.move (Operand.tmp 52), type := 4, pos := "l7_mail.go:99", after := #[{ on := 1, ground := Ground.data }], guard := none }) (v := ?_) rfl (by kernel_rfl) (by kernel_rfl) (by kernel_rfl) (fun _ _ _ h => h) (Or.inl ⟨by rfl, ?_⟩) (by assumption) ?_
              rotate_left
              · intro wq hSw
                (try dsimp only at hSw)
                go_simp
                try with_reducible rfl
              try simp only [Act.put, List.setIfInBounds_toArray, List.set_cons_zero, List.set_cons_succ]
              refine wpAnyH_take (i := 3) (oi := { dst := some 54, op := Op.move (Operand.tmp 10), type := 3, pos := "l7_mail.go:99", after := #[{ on := 2, ground := Ground.guard }], guard := some (2, false) }) (v := undef) rfl (by kernel_rfl) (by kernel_rfl) (by kernel_rfl) (fun _ _ _ h => h) (Or.inr ⟨by rfl, rfl⟩) (by assumption) ?_
              try simp only [Act.put, List.setIfInBounds_toArray, List.set_cons_zero, List.set_cons_succ]
              refine wpAnyH_take (i := 4) (oi := { dst := some 55, op := Op.indexAddr 75 (Operand.tmp 9) (Operand.tmp 54), type := 0, pos := "l7_mail.go:99", after := #[{ on := 3, ground := Ground.data }, { on := 2, ground := Ground.guard }], guard := some (2, false) }) (v := undef) rfl (by kernel_rfl) (by kernel_rfl) (by kernel_rfl) (fun _ _ _ h => h) (Or.inr ⟨by rfl, rfl⟩) (by assumption) ?_
              try simp only [Act.put, List.setIfInBounds_toArray, List.set_cons_zero, List.set_cons_succ]
              refine wpAnyH_take (i := 5) (oi := { dst := some 56, op := Op.fieldAddr 74 (Operand.tmp 55) 1, type := 0, pos := "l7_mail.go:99", after := #[{ on := 4, ground := Ground.data }, { on := 2, ground := Ground.guard }], guard := some (2, false) }) (v := undef) rfl (by kernel_rfl) (by kernel_rfl) (by kernel_rfl) (fun _ _ _ h => h) (Or.inr ⟨by rfl, rfl⟩) (by assumption) ?_
              try simp only [Act.put, List.setIfInBounds_toArray, List.set_cons_zero, List.set_cons_succ]
              refine wpAnyH_take (i := 6) (oi := { dst := some 57, op := Op.load 60 (Operand.tmp 56), type := 60, pos := "l7_mail.go:99", after := #[{ on := 5, ground := Ground.data }, { on := 2, ground := Ground.guard }], guard := some (2, false) }) (v := undef) rfl (by kernel_rfl) (by kernel_rfl) (by kernel_rfl) (fun _ _ _ h => h) (Or.inr ⟨by rfl, rfl⟩) (by assumption) ?_
              try simp only [Act.put, List.setIfInBounds_toArray, List.set_cons_zero, List.set_cons_succ]
              refine wpAnyH_take (i := 7) (oi := { dst := some 58, op := Op.load 41 (Operand.tmp 11), type := 41, pos := "l7_mail.go:99", after := #[{ on := 2, ground := Ground.guard }], guard := some (2, false) }) (v := undef) rfl (by kernel_rfl) (by kernel_rfl) (by kernel_rfl) (fun _ _ _ h => h) (Or.inr ⟨by rfl, rfl⟩) (by assumption) ?_
              try simp only [Act.put, List.setIfInBounds_toArray, List.set_cons_zero, List.set_cons_succ]
              refine wpAnyH_take (i := 8) (oi := { dst := some 59, op := Op.call { callee := Callee.value (Operand.tmp 57), args := #[Operand.tmp 58], argTypes := #[41] }, type := 4, pos := "l7_mail.go:99", after := #[{ on := 6, ground := Ground.data }, { on := 7, ground := Ground.data }, { on := 2, ground := Ground.chain }, { on := 2, ground := Ground.guard }], guard := some (2, false) }) (v := undef) rfl (by kernel_rfl) (by kernel_rfl) (by kernel_rfl) (fun _ _ _ h => h) (Or.inr ⟨by rfl, rfl⟩) (by assumption) ?_
              try simp only [Act.put, List.setIfInBounds_toArray, List.set_cons_zero, List.set_cons_succ]
              refine wpAnyH_take (i := 9) (oi := { dst := some 60, op := Op.unOp UnOp.not 4 (Operand.tmp 59), type := 4, pos := "l7_mail.go:99", after := #[{ on := 8, ground := Ground.data }, { on := 2, ground := Ground.guard }], guard := some (2, false) }) (v := undef) rfl (by kernel_rfl) (by kernel_rfl) (by kernel_rfl) (fun _ _ _ h => h) (Or.inr ⟨by rfl, rfl⟩) (by assumption) ?_
              try simp only [Act.put, List.setIfInBounds_toArray, List.set_cons_zero, List.set_cons_succ]
              refine wpAnyH_take (i := 10) (oi := { dst := some 61, op := Op.pick (Operand.tmp 53) (Operand.const (Value.bool true)) (Operand.tmp 60), type := 4, pos := "l7_mail.go:99", after := #[{ on := 2, ground := Ground.data }, { on := 9, ground := Ground.data }], guard := none }) (v := ?_) rfl (by kernel_rfl) (by kernel_rfl) (by kernel_rfl) (fun _ _ _ h => h) (Or.inl ⟨by rfl, ?_⟩) (by assumption) ?_
              rotate_left
              · intro wq hSw
                (try dsimp only at hSw)
                go_simp
                try with_reducible rfl
              try simp only [Act.put, List.setIfInBounds_toArray, List.set_cons_zero, List.set_cons_succ]
              refine wpAnyH_done (by kernel_rfl) ?_ _
              clear hHeld
              go_wp2_with (refine wpList_store_blk rfl 41 (.tmp 2) (.tmp 62) rfl w.heap.size 0 rfl zG rfl (blk_some (BlkAt.drewW HRU.out) zG rfl) (OpnAt.drewW HOU.out) (by simp [zG, Value.oneCell']) (by kernel_rfl) rfl ?_)
              exact finM_no HN.out rfl rfl rfl (BlkAt.drewW HRU.out) hBU.drew
            · have HKD : Hid (x.kd = 2) := hkd rfl
              go_wp2_with fail
              refine wp_region_held_drew (S := (fun u => BlkAt u Bm (x.c ai ci) ∧ u.cell? ⟨Wb, 9, none⟩ = some (.func (.func 79) #[] #[]))) (by kernel_rfl) ?_ (fun hHeld => ?_)
              · exact ⟨HM.out, HWU.out 9 _ rfl⟩
              refine wpAnyH_take (i := 0) (oi := { dst := some 51, op := Op.move (Operand.tmp 12), type := 4, pos := "l7_mail.go:99", after := #[], guard := none }) (v := ?_) rfl (by kernel_rfl) (by kernel_rfl) (by kernel_rfl) (fun _ _ _ h => h) (Or.inl ⟨by rfl, ?_⟩) (by assumption) ?_
              rotate_left
              · intro wq hSw
                (try dsimp only at hSw)
                go_simp
                try with_reducible rfl
              try simp only [Act.put, List.setIfInBounds_toArray, List.set_cons_zero, List.set_cons_succ]
              refine wpAnyH_take (i := 1) (oi := { dst := some 52, op := Op.unOp UnOp.not 4 (Operand.tmp 51), type := 4, pos := "l7_mail.go:99", after := #[{ on := 0, ground := Ground.data }], guard := none }) (v := ?_) rfl (by kernel_rfl) (by kernel_rfl) (by kernel_rfl) (fun _ _ _ h => h) (Or.inl ⟨by rfl, ?_⟩) (by assumption) ?_
              rotate_left
              · intro wq hSw
                (try dsimp only at hSw)
                go_simp
                try with_reducible rfl
              try simp only [Act.put, List.setIfInBounds_toArray, List.set_cons_zero, List.set_cons_succ]
              refine wpAnyH_take (i := 2) (oi := { dst := some 53, op := Op.move (Operand.tmp 52), type := 4, pos := "l7_mail.go:99", after := #[{ on := 1, ground := Ground.data }], guard := none }) (v := ?_) rfl (by kernel_rfl) (by kernel_rfl) (by kernel_rfl) (fun _ _ _ h => h) (Or.inl ⟨by rfl, ?_⟩) (by assumption) ?_
              rotate_left
              · intro wq hSw
                (try dsimp only at hSw)
                go_simp
                try with_reducible rfl
              try simp only [Act.put, List.setIfInBounds_toArray, List.set_cons_zero, List.set_cons_succ]
              refine wpAnyH_take (i := 3) (oi := { dst := some 54, op := Op.move (Operand.tmp 10), type := 3, pos := "l7_mail.go:99", after := #[{ on := 2, ground := Ground.guard }], guard := some (2, false) }) (v := ?_) rfl (by kernel_rfl) (by kernel_rfl) (by kernel_rfl) (fun _ _ _ h => h) (Or.inl ⟨by rfl, ?_⟩) (by assumption) ?_
              rotate_left
              · intro wq hSw
                (try dsimp only at hSw)
                go_simp
                try with_reducible rfl
              try simp only [Act.put, List.setIfInBounds_toArray, List.set_cons_zero, List.set_cons_succ]
              refine wpAnyH_take (i := 4) (oi := { dst := some 55, op := Op.indexAddr 75 (Operand.tmp 9) (Operand.tmp 54), type := 0, pos := "l7_mail.go:99", after := #[{ on := 3, ground := Ground.data }, { on := 2, ground := Ground.guard }], guard := some (2, false) }) (v := ?_) rfl (by kernel_rfl) (by kernel_rfl) (by kernel_rfl) (fun _ _ _ h => h) (Or.inl ⟨by rfl, ?_⟩) (by assumption) ?_
              rotate_left
              · intro wq hSw
                (try dsimp only at hSw)
                go_simp
                try with_reducible rfl
              try simp only [Act.put, List.setIfInBounds_toArray, List.set_cons_zero, List.set_cons_succ]
              refine wpAnyH_take (i := 5) (oi := { dst := some 56, op := Op.fieldAddr 74 (Operand.tmp 55) 1, type := 0, pos := "l7_mail.go:99", after := #[{ on := 4, ground := Ground.data }, { on := 2, ground := Ground.guard }], guard := some (2, false) }) (v := ?_) rfl (by kernel_rfl) (by kernel_rfl) (by kernel_rfl) (fun _ _ _ h => h) (Or.inl ⟨by rfl, ?_⟩) (by assumption) ?_
              rotate_left
              · intro wq hSw
                (try dsimp only at hSw)
                go_simp
                try with_reducible rfl
              try simp only [Act.put, List.setIfInBounds_toArray, List.set_cons_zero, List.set_cons_succ]
              refine wpAnyH_take (i := 6) (oi := { dst := some 57, op := Op.load 60 (Operand.tmp 56), type := 60, pos := "l7_mail.go:99", after := #[{ on := 5, ground := Ground.data }, { on := 2, ground := Ground.guard }], guard := some (2, false) }) (v := ?_) rfl (by kernel_rfl) (by kernel_rfl) (by kernel_rfl) (fun _ _ _ h => h) (Or.inl ⟨by rfl, ?_⟩) (by assumption) ?_
              rotate_left
              · intro wq hSw
                (try dsimp only at hSw)
                go_simp
                try with_reducible rfl
              try simp only [Act.put, List.setIfInBounds_toArray, List.set_cons_zero, List.set_cons_succ]
              refine wpAnyH_take (i := 7) (oi := { dst := some 58, op := Op.load 41 (Operand.tmp 11), type := 41, pos := "l7_mail.go:99", after := #[{ on := 2, ground := Ground.guard }], guard := some (2, false) }) (v := .agg ((x.c ai ci) : List Value).toArray) rfl (by kernel_rfl) (by kernel_rfl) (by kernel_rfl) (fun _ _ _ h => h) (Or.inl ⟨by rfl, ?_⟩) (by assumption) ?_
              · intro wq hSw
                have hq := run_loadVar_blk (P := Tryz.prog) wq Bm 41 (x.c ai ci) _ hSw.1 Tryz.underlying41 rfl (by kernel_rfl)
                have hg := load_ex hq
                first
                  | exact hg
                  | (simp only [execOp, Sem.run_bind, Sem.run_pure]; exact hg)
                  | (unfold execOp; simp only [Sem.run_bind, Sem.run_pure]; exact hg)
              try simp only [Act.put, List.setIfInBounds_toArray, List.set_cons_zero, List.set_cons_succ]
              refine wpAnyH_ready (rs := [8]) (by kernel_rfl) (by simp) ?_
              refine AllReadyH.cons (o := { dst := some 59, op := Op.call { callee := Callee.value (Operand.tmp 57), args := #[Operand.tmp 58], argTypes := #[41] }, type := 4, pos := "l7_mail.go:99", after := #[{ on := 6, ground := Ground.data }, { on := 7, ground := Ground.data }, { on := 2, ground := Ground.chain }, { on := 2, ground := Ground.guard }], guard := some (2, false) }) rfl (fun K hK => ?_) AllReadyH.nil
              go_simp
              refine (c79v x ai ci _ HKD.out hle (lks_below HLK.out.at' ((Below.refl _ _).drew))).mono ?_
              rintro e w6 ⟨⟨r, rfl, hrr⟩, hb6⟩
              have hbd : Below U.heap.size U w6 := ((Below.refl _ _).drew).trans hb6
              have HRR : Hid (r = true ↔ TurnOkM x) := hrr
              clear hb6 hrr
              have HM6 : BlkAt w6 Bm (x.c ai ci) := HM.out.below hbd hBm
              have HR6 : BlkAt w6 w.heap.size zG := HRU.out.below hbd hRz
              have HO6 : OpnAt w6 w.heap.size := HOU.out.below hbd hRz
              have hB6 : Below w.heap.size w w6 := hBU.trans (hbd.mono hBU.size)
              have HLK6 : LkOwn w6 (w.heap.size + 1) ai x.ls := lkown_bel HLK.out hbd
              go_wp2_with fail
              clear hHeld
              refine hK.out _ _ ?_ (fun hHeld => ?_)
              · exact ⟨HM6, (hbd.cell (p := ⟨Wb, 9, none⟩) hWz).trans (HWU.out 9 _ rfl)⟩
              clear hK K
              try simp only [Act.put, List.setIfInBounds_toArray, List.set_cons_zero, List.set_cons_succ]
              refine wpAnyH_take (i := 9) (oi := { dst := some 60, op := Op.unOp UnOp.not 4 (Operand.tmp 59), type := 4, pos := "l7_mail.go:99", after := #[{ on := 8, ground := Ground.data }, { on := 2, ground := Ground.guard }], guard := some (2, false) }) (v := ?_) rfl (by kernel_rfl) (by kernel_rfl) (by kernel_rfl) (fun _ _ _ h => h) (Or.inl ⟨by rfl, ?_⟩) (by assumption) ?_
              rotate_left
              · intro wq hSw
                (try dsimp only at hSw)
                go_simp
                try with_reducible rfl
              try simp only [Act.put, List.setIfInBounds_toArray, List.set_cons_zero, List.set_cons_succ]
              refine wpAnyH_take (i := 10) (oi := { dst := some 61, op := Op.pick (Operand.tmp 53) (Operand.const (Value.bool true)) (Operand.tmp 60), type := 4, pos := "l7_mail.go:99", after := #[{ on := 2, ground := Ground.data }, { on := 9, ground := Ground.data }], guard := none }) (v := ?_) rfl (by kernel_rfl) (by kernel_rfl) (by kernel_rfl) (fun _ _ _ h => h) (Or.inl ⟨by rfl, ?_⟩) (by assumption) ?_
              rotate_left
              · intro wq hSw
                (try dsimp only at hSw)
                go_simp
                try with_reducible rfl
              try simp only [Act.put, List.setIfInBounds_toArray, List.set_cons_zero, List.set_cons_succ]
              refine wpAnyH_done (by kernel_rfl) ?_ _
              clear hHeld
              cases r
              · have HN : Hid (RdMail s.data.toList g16z false) := (rdMail_kind (by decide) hen.out hfb.out hwd.out HRD.out).2 (fun h => by
                  have h2 : TurnOkM x := by
                    have hq := HKD.out
                    rcases h.2 with ⟨h, h'⟩ | ⟨h, h'⟩ | ⟨h, h'⟩ <;> first | exact h' | (exfalso; omega)
                  exact absurd (HRR.out.2 h2) (by decide)) g16z
                clear HRD
                go_wp2_with (refine wpList_store_blk rfl 41 (.tmp 2) (.tmp 62) rfl w.heap.size 0 rfl zG rfl (blk_some HR6 zG rfl) HO6 (by simp [zG, Value.oneCell']) (by kernel_rfl) rfl ?_)
                exact finM_no HN.out rfl rfl rfl HR6 hB6
              · have HN : Hid (RdMail s.data.toList x true) := (rdMail_kind (by decide) hen.out hfb.out hwd.out HRD.out).1 rfl (.inr (.inl ⟨HKD.out, HRR.out.1 rfl⟩))
                clear HRD
                go_wp2_with (first | refine wpList_load_blk rfl 41 (.tmp 11) rfl Bm rfl (x.c ai ci) _ HM6 Tryz.underlying41 rfl (by kernel_rfl) ?_ | refine wpList_store_blk rfl 41 (.tmp 2) (.tmp 63) rfl w.heap.size 0 rfl (x.c ai ci) rfl (blk_some HR6 _ rfl) HO6 (G16.c_one _ _ _) (by kernel_rfl) rfl ?_)
                exact finM_yes x ai ci HN.out hle HLK6 rfl rfl rfl HR6 hB6
        · have e1 : ([116, 117, 114, 110] == (ofL (wordOf f)).toList) = false := by
            rw [ByteArray.toList_eq, ofL_list]
            exact beq_eq_false_iff_ne.2 (fun e => hw e.symm)
          have e2 : ([116, 117, 114, 110] != (ofL (wordOf f)).toList) = true := by rw [bne, e1]; rfl
          have e3 : ¬ [116, 117, 114, 110] = (ofL (wordOf f)).toList := fun e => by rw [← e] at e1; revert e1; decide
          have HNO : Hid (∀ j : Int, 1 ≤ j → j < 3 → wordOf f ≠ wrdP j) := fun j h1 h2 => by
            by_cases hj : j = 2
            · subst hj; exact hw
            · exact hno.out j h1 (by omega)
          clear hw hno
          go_wp2
          go_roundw
          case rel => exact ⟨3, by omega, by omega, by go_num, by first | rfl | trivial, HNO⟩
          case measure => simp [intOf]
      · have hwl := HWA.out 12 _ rfl
        by_cases hw : wordOf f = [104, 101, 114, 101]
        · have hwd : Hid (wordOf f = wrdP 3) := hw
          have hes : ofL (wordOf f) = ⟨#[104, 101, 114, 101]⟩ := by rw [hw]; rfl
          rw [hes]
          clear hw hes
          go_wp2_with fail
          refine wp_region_held_drew (S := (fun u => u.cell? ⟨Wb, 15, none⟩ = some (.func (.func 84) #[] #[]))) (by kernel_rfl) ?_ (fun hHeld => ?_)
          · exact HWA.out 15 _ rfl
          refine wpAnyH_take (i := 0) (oi := { dst := some 41, op := Op.move (Operand.tmp 10), type := 3, pos := "l7_mail.go:98", after := #[], guard := none }) (v := ?_) rfl (by kernel_rfl) (by kernel_rfl) (by kernel_rfl) (fun _ _ _ h => h) (Or.inl ⟨by rfl, ?_⟩) (by assumption) ?_
          rotate_left
          · intro wq hSw
            (try dsimp only at hSw)
            go_simp
            try with_reducible rfl
          try simp only [Act.put, List.setIfInBounds_toArray, List.set_cons_zero, List.set_cons_succ]
          refine wpAnyH_take (i := 1) (oi := { dst := some 42, op := Op.indexAddr 75 (Operand.tmp 9) (Operand.tmp 41), type := 0, pos := "l7_mail.go:98", after := #[{ on := 0, ground := Ground.data }], guard := none }) (v := ?_) rfl (by kernel_rfl) (by kernel_rfl) (by kernel_rfl) (fun _ _ _ h => h) (Or.inl ⟨by rfl, ?_⟩) (by assumption) ?_
          rotate_left
          · intro wq hSw
            (try dsimp only at hSw)
            go_simp
            try with_reducible rfl
          try simp only [Act.put, List.setIfInBounds_toArray, List.set_cons_zero, List.set_cons_succ]
          refine wpAnyH_take (i := 2) (oi := { dst := some 43, op := Op.fieldAddr 74 (Operand.tmp 42) 3, type := 0, pos := "l7_mail.go:98", after := #[{ on := 1, ground := Ground.data }], guard := none }) (v := ?_) rfl (by kernel_rfl) (by kernel_rfl) (by kernel_rfl) (fun _ _ _ h => h) (Or.inl ⟨by rfl, ?_⟩) (by assumption) ?_
          rotate_left
          · intro wq hSw
            (try dsimp only at hSw)
            go_simp
            try with_reducible rfl
          try simp only [Act.put, List.setIfInBounds_toArray, List.set_cons_zero, List.set_cons_succ]
          refine wpAnyH_take (i := 3) (oi := { dst := some 44, op := Op.load 72 (Operand.tmp 43), type := 72, pos := "l7_mail.go:98", after := #[{ on := 2, ground := Ground.data }], guard := none }) (v := ?_) rfl (by kernel_rfl) (by kernel_rfl) (by kernel_rfl) (fun _ _ _ h => h) (Or.inl ⟨by rfl, ?_⟩) (by assumption) ?_
          rotate_left
          · intro wq hSw
            (try dsimp only at hSw)
            go_simp
            try with_reducible rfl
          try simp only [Act.put, List.setIfInBounds_toArray, List.set_cons_zero, List.set_cons_succ]
          refine wpAnyH_take (i := 4) (oi := { dst := some 45, op := Op.move (Operand.tmp 7), type := 9, pos := "l7_mail.go:98", after := #[], guard := none }) (v := ?_) rfl (by kernel_rfl) (by kernel_rfl) (by kernel_rfl) (fun _ _ _ h => h) (Or.inl ⟨by rfl, ?_⟩) (by assumption) ?_
          rotate_left
          · intro wq hSw
            (try dsimp only at hSw)
            go_simp
            try with_reducible rfl
          try simp only [Act.put, List.setIfInBounds_toArray, List.set_cons_zero, List.set_cons_succ]
          refine wpAnyH_take (i := 5) (oi := { dst := some 46, op := Op.move (Operand.tmp 4), type := 80, pos := "l7_mail.go:98", after := #[], guard := none }) (v := ?_) rfl (by kernel_rfl) (by kernel_rfl) (by kernel_rfl) (fun _ _ _ h => h) (Or.inl ⟨by rfl, ?_⟩) (by assumption) ?_
          rotate_left
          · intro wq hSw
            (try dsimp only at hSw)
            go_simp
            try with_reducible rfl
          try simp only [Act.put, List.setIfInBounds_toArray, List.set_cons_zero, List.set_cons_succ]
          refine wpAnyH_take (i := 6) (oi := { dst := some 47, op := Op.slice 80 (Operand.tmp 46) (some (Operand.const (Value.int IntKind.i64 1))) none none, type := 80, pos := "l7_mail.go:98", after := #[{ on := 5, ground := Ground.data }], guard := none }) (v := .slice (some ⟨g, o1, none⟩) b.length b.length) rfl (by kernel_rfl) (by kernel_rfl) (by kernel_rfl) (fun _ _ _ h => h) (Or.inl ⟨by rfl, ?_⟩) (by assumption) ?_
          · intro wq hSw
            (try dsimp only at hSw)
            go_simp
            first | (intro h; omega) | (rw [if_pos (by omega), ho1])
          try simp only [Act.put, List.setIfInBounds_toArray, List.set_cons_zero, List.set_cons_succ]
          refine wpAnyH_ready (rs := [7, 11]) (by kernel_rfl) (by simp) ?_
          refine AllReadyH.cons (o := { dst := some 48, op := Op.call { callee := Callee.value (Operand.tmp 44), args := #[Operand.tmp 45, Operand.tmp 47], argTypes := #[9, 80] }, type := 52, pos := "l7_mail.go:98", after := #[{ on := 3, ground := Ground.data }, { on := 4, ground := Ground.data }, { on := 6, ground := Ground.data }], guard := none }) rfl (fun K hK => ?_) (AllReadyH.cons (o := { dst := some 11, op := Op.alloc 41, type := 0, pos := "l7_mail.go:98", after := #[], guard := none }) rfl (fun K hK => ?_) AllReadyH.nil)
          · go_simp
            refine (c84v (restOf f) b g o1 b.length _ hrs (max_below hm0 ((Below.refl _ _).drew)) hbl (linesIn_below hln0 ((Below.refl _ _).drew)) HBS.out).mono ?_
            rintro e w5 ⟨⟨x, ok, ai, ci, rfl, hrd, hkd, hle, hlk⟩, hb5⟩
            have hbc : Below W0.heap.size W0 w5 := ((Below.refl _ _).drew).trans hb5
            go_wp2_with fail
            clear hHeld
            refine hK.out _ _ ?_ (fun hHeld => ?_)
            · exact (hbc.cell (p := ⟨Wb, 15, none⟩) hWz).trans (HWA.out 15 _ rfl)
            clear hK K
            try simp only [Act.put, List.setIfInBounds_toArray, List.set_cons_zero, List.set_cons_succ]
            refine wpAnyH_take (i := 8) (oi := { dst := some 40, op := Op.move (Operand.tmp 48), type := 52, pos := "l7_mail.go:98", after := #[{ on := 7, ground := Ground.data }], guard := none }) (v := ?_) rfl (by kernel_rfl) (by kernel_rfl) (by kernel_rfl) (fun _ _ _ h => h) (Or.inl ⟨by rfl, ?_⟩) (by assumption) ?_
            rotate_left
            · intro wq hSw
              (try dsimp only at hSw)
              go_simp
              try with_reducible rfl
            try simp only [Act.put, List.setIfInBounds_toArray, List.set_cons_zero, List.set_cons_succ]
            refine wpAnyH_take (i := 9) (oi := { dst := some 49, op := Op.extract (Operand.tmp 40) 0, type := 41, pos := "l7_mail.go:98", after := #[{ on := 8, ground := Ground.data }], guard := none }) (v := ?_) rfl (by kernel_rfl) (by kernel_rfl) (by kernel_rfl) (fun _ _ _ h => h) (Or.inl ⟨by rfl, ?_⟩) (by assumption) ?_
            rotate_left
            · intro wq hSw
              (try dsimp only at hSw)
              go_simp
              try with_reducible rfl
            try simp only [Act.put, List.setIfInBounds_toArray, List.set_cons_zero, List.set_cons_succ]
            refine wpAnyH_take (i := 10) (oi := { dst := some 50, op := Op.extract (Operand.tmp 40) 1, type := 4, pos := "l7_mail.go:98", after := #[{ on := 8, ground := Ground.data }, { on := 12, ground := Ground.gcOnly Departure.lateStores }], guard := none }) (v := ?_) rfl (by kernel_rfl) (by kernel_rfl) (by kernel_rfl) (fun _ _ _ h => h) (Or.inl ⟨by rfl, ?_⟩) (by assumption) ?_
            rotate_left
            · intro wq hSw
              (try dsimp only at hSw)
              go_simp
              try with_reducible rfl
            try simp only [Act.put, List.setIfInBounds_toArray, List.set_cons_zero, List.set_cons_succ]
            have hb5a : Below w5.heap.size w5 (w5.alloc (.cells #[.int .i64 0, .int .i64 0, .int .i64 0, .int .i64 0, .int .i64 0, .string ⟨#[]⟩, .string ⟨#[]⟩, .string ⟨#[]⟩, .slice none 0 0, .int .i64 0, .bool false, .int .i64 0, .string ⟨#[]⟩, .bool false, .string ⟨#[]⟩, .int .i64 0] 41)) := (Below.refl _ _).alloc (Nat.le_refl _) _
            have hza : (w5.alloc (.cells #[.int .i64 0, .int .i64 0, .int .i64 0, .int .i64 0, .int .i64 0, .string ⟨#[]⟩, .string ⟨#[]⟩, .string ⟨#[]⟩, .slice none 0 0, .int .i64 0, .bool false, .int .i64 0, .string ⟨#[]⟩, .bool false, .string ⟨#[]⟩, .int .i64 0] 41)).heap.size = w5.heap.size + 1 := by simp
            refine wpAnyH_ready (rs := [11]) (by kernel_rfl) (by simp) ?_
            refine AllReadyH.cons (o := { dst := some 11, op := Op.alloc 41, type := 0, pos := "l7_mail.go:98", after := #[], guard := none }) rfl (fun K hK => ?_) AllReadyH.nil
            go_simp
            clear hHeld
            refine hK.out _ _ ?_ (fun hHeld => ?_)
            · exact (hb5a.cell (p := ⟨Wb, 15, none⟩) (Nat.lt_of_lt_of_le hWz hbc.size)).trans ((hbc.cell (p := ⟨Wb, 15, none⟩) hWz).trans (HWA.out 15 _ rfl))
            clear hK K
            try simp only [Act.put, List.setIfInBounds_toArray, List.set_cons_zero, List.set_cons_succ]
            refine wpAnyH_ready (rs := [12]) (by kernel_rfl) (by simp) ?_
            refine AllReadyH.cons (o := { dst := none, op := Op.store 41 (Operand.tmp 11) (Operand.tmp 49), type := 0, pos := "l7_mail.go:98", after := #[{ on := 11, ground := Ground.data }, { on := 9, ground := Ground.data }, { on := 7, ground := Ground.chain }, { on := 0, ground := Ground.phase }, { on := 1, ground := Ground.phase }, { on := 2, ground := Ground.phase }, { on := 3, ground := Ground.phase }, { on := 4, ground := Ground.phase }, { on := 5, ground := Ground.phase }, { on := 6, ground := Ground.phase }, { on := 7, ground := Ground.phase }, { on := 8, ground := Ground.phase }, { on := 9, ground := Ground.phase }, { on := 10, ground := Ground.textOnly Departure.lateStores }, { on := 11, ground := Ground.phase }], guard := none }) rfl (fun K hK => ?_) AllReadyH.nil
            refine step_store_blk rfl 41 (.tmp 11) (.tmp 49) rfl w5.heap.size 0 rfl (x.c ai ci) rfl (blk_some (blk_new w5 zG 41) _ rfl) (opn_new w5 _ 41) (G16.c_one _ _ _) (by kernel_rfl) rfl ?_
            clear hHeld
            refine hK.out _ _ ?_ (fun hHeld => ?_)
            · exact (cell_fill _ 0 ⟨Wb, 15, none⟩ (by show Wb ≠ w5.heap.size; have := hbc.size; omega)).trans ((hb5a.cell (p := ⟨Wb, 15, none⟩) (Nat.lt_of_lt_of_le hWz hbc.size)).trans ((hbc.cell (p := ⟨Wb, 15, none⟩) hWz).trans (HWA.out 15 _ rfl)))
            clear hK K
            try simp only [Act.put, List.setIfInBounds_toArray, List.set_cons_zero, List.set_cons_succ]
            refine wpAnyH_take (i := 13) (oi := { dst := some 12, op := Op.assign (Operand.tmp 50), type := 4, pos := "l7_mail.go:98", after := #[{ on := 10, ground := Ground.data }, { on := 12, ground := Ground.chain }, { on := 0, ground := Ground.phase }, { on := 1, ground := Ground.phase }, { on := 2, ground := Ground.phase }, { on := 3, ground := Ground.phase }, { on := 4, ground := Ground.phase }, { on := 5, ground := Ground.phase }, { on := 6, ground := Ground.phase }, { on := 7, ground := Ground.phase }, { on := 8, ground := Ground.phase }, { on := 9, ground := Ground.phase }, { on := 10, ground := Ground.phase }, { on := 11, ground := Ground.phase }, { on := 12, ground := Ground.phase }], guard := none }) (v := ?_) rfl (by kernel_rfl) (by kernel_rfl) (by kernel_rfl) (fun _ _ _ h => h) (Or.inl ⟨by rfl, ?_⟩) (by assumption) ?_
            rotate_left
            · intro wq hSw
              (try dsimp only at hSw)
              go_simp
              try with_reducible rfl
            try simp only [Act.put, List.setIfInBounds_toArray, List.set_cons_zero, List.set_cons_succ]
            refine wpAnyH_done (by kernel_rfl) ?_ _
            clear hHeld
            have hz5 : W0.heap.size ≤ w5.heap.size := hbc.size
            obtain ⟨U, hU⟩ : ∃ U, U = fill (w5.alloc (.cells #[.int .i64 0, .int .i64 0, .int .i64 0, .int .i64 0, .int .i64 0, .string ⟨#[]⟩, .string ⟨#[]⟩, .string ⟨#[]⟩, .slice none 0 0, .int .i64 0, .bool false, .int .i64 0, .string ⟨#[]⟩, .bool false, .string ⟨#[]⟩, .int .i64 0] 41)) w5.heap.size 0 (x.c ai ci) := ⟨_, rfl⟩
            have hUU : Below w5.heap.size w5 U := hU ▸ below_fill (Nat.le_refl _) _ 0 hb5a
            have hzU : U.heap.size = w5.heap.size + 1 := by rw [hU, size_fill, hza]
            obtain ⟨Bm, hBmE⟩ : ∃ Bm, Bm = w5.heap.size := ⟨_, rfl⟩
            have HM : Hid (BlkAt U Bm (x.c ai ci)) := by
              rw [hU, hBmE]
              exact BlkAt.fill (B := w5.heap.size) (x.c ai ci) [] zG [] 0 (blk_new w5 zG 41) rfl rfl
            have hBm : Bm < U.heap.size := by omega
            have hBW : Below W0.heap.size W0 U := hbc.trans (hUU.mono hz5)
            have HLK : Hid (LkOwn U (w.heap.size + 1) ai x.ls) := lkown_bel (hlk.mono (by show _ ≤ W0.drew.heap.size; simp; omega)) hUU
            rw [← hU]
            rw [← hBmE]
            clear hU hlk hb5 hb5a hUU hza hbc hBmE hzU
            have HWU : Hid (BlkAt U Wb wayL) := HWA.out.below hBW hWz
            have HRU : Hid (BlkAt U w.heap.size zG) := HRA.out.below hBW (by omega)
            have HOU : Hid (OpnAt U w.heap.size) := HOA.out.below hBW (by omega)
            have hBU : Below w.heap.size w U := hBw0.trans (hBW.mono (by omega))
            have hRz : w.heap.size < U.heap.size := Nat.lt_of_lt_of_le hRz0 hBW.size
            have hWz' : Wb < U.heap.size := Nat.lt_of_lt_of_le hWz hBW.size
            have HRD : Hid (RdMsg 3 (restOf f) b x ok) := hrd
            clear hWz
            rename Wb < U.heap.size => hWz
            clear hrd hBW
            cases ok
            · have HN : Hid (RdMail s.data.toList g16z false) := (rdMail_kind (by decide) hen.out hfb.out hwd.out HRD.out).2 (fun h => by cases h.1) g16z
              clear HRD
              go_wp2_with fail
              refine wp_region_held_drew (S := (fun _ => True)) (by kernel_rfl) ?_ (fun hHeld => ?_)
              · ((try dsimp only); (try trivial))
              refine wpAnyH_take (i := 0) (oi := { dst := some 51, op := Op.move (Operand.tmp 12), type := 4, pos := "l7_mail.go:99", after := #[], guard := none }) (v := ?_) rfl (by kernel_rfl) (by kernel_rfl) (by kernel_rfl) (fun _ _ _ h => h) (Or.inl ⟨by rfl, ?_⟩) (by assumption) ?_
              rotate_left
              · intro wq hSw
                (try dsimp only at hSw)
                go_simp
                try with_reducible rfl
              try simp only [Act.put, List.setIfInBounds_toArray, List.set_cons_zero, List.set_cons_succ]
              refine wpAnyH_take (i := 1) (oi := { dst := some 52, op := Op.unOp UnOp.not 4 (Operand.tmp 51), type := 4, pos := "l7_mail.go:99", after := #[{ on := 0, ground := Ground.data }], guard := none }) (v := ?_) rfl (by kernel_rfl) (by kernel_rfl) (by kernel_rfl) (fun _ _ _ h => h) (Or.inl ⟨by rfl, ?_⟩) (by assumption) ?_
              rotate_left
              · intro wq hSw
                (try dsimp only at hSw)
                go_simp
                try with_reducible rfl
              try simp only [Act.put, List.setIfInBounds_toArray, List.set_cons_zero, List.set_cons_succ]
              refine wpAnyH_take (i := 2) (oi := { dst := some 53, op := Op.move (Operand.tmp 52), type := 4, pos := "l7_mail.go:99", after := #[{ on := 1, ground := Ground.data }], guard := none }) (v := ?_) rfl (by kernel_rfl) (by kernel_rfl) (by kernel_rfl) (fun _ _ _ h => h) (Or.inl ⟨by rfl, ?_⟩) (by assumption) ?_
              rotate_left
              · intro wq hSw
                (try dsimp only at hSw)
                go_simp
                try with_reducible rfl
              try simp only [Act.put, List.setIfInBounds_toArray, List.set_cons_zero, List.set_cons_succ]
              refine wpAnyH_take (i := 3) (oi := { dst := some 54, op := Op.move (Operand.tmp 10), type := 3, pos := "l7_mail.go:99", after := #[{ on := 2, ground := Ground.guard }], guard := some (2, false) }) (v := undef) rfl (by kernel_rfl) (by kernel_rfl) (by kernel_rfl) (fun _ _ _ h => h) (Or.inr ⟨by rfl, rfl⟩) (by assumption) ?_
              try simp only [Act.put, List.setIfInBounds_toArray, List.set_cons_zero, List.set_cons_succ]
              refine wpAnyH_take (i := 4) (oi := { dst := some 55, op := Op.indexAddr 75 (Operand.tmp 9) (Operand.tmp 54), type := 0, pos := "l7_mail.go:99", after := #[{ on := 3, ground := Ground.data }, { on := 2, ground := Ground.guard }], guard := some (2, false) }) (v := undef) rfl (by kernel_rfl) (by kernel_rfl) (by kernel_rfl) (fun _ _ _ h => h) (Or.inr ⟨by rfl, rfl⟩) (by assumption) ?_
              try simp only [Act.put, List.setIfInBounds_toArray, List.set_cons_zero, List.set_cons_succ]
              refine wpAnyH_take (i := 5) (oi := { dst := some 56, op := Op.fieldAddr 74 (Operand.tmp 55) 1, type := 0, pos := "l7_mail.go:99", after := #[{ on := 4, ground := Ground.data }, { on := 2, ground := Ground.guard }], guard := some (2, false) }) (v := undef) rfl (by kernel_rfl) (by kernel_rfl) (by kernel_rfl) (fun _ _ _ h => h) (Or.inr ⟨by rfl, rfl⟩) (by assumption) ?_
              try simp only [Act.put, List.setIfInBounds_toArray, List.set_cons_zero, List.set_cons_succ]
              refine wpAnyH_take (i := 6) (oi := { dst := some 57, op := Op.load 60 (Operand.tmp 56), type := 60, pos := "l7_mail.go:99", after := #[{ on := 5, ground := Ground.data }, { on := 2, ground := Ground.guard }], guard := some (2, false) }) (v := undef) rfl (by kernel_rfl) (by kernel_rfl) (by kernel_rfl) (fun _ _ _ h => h) (Or.inr ⟨by rfl, rfl⟩) (by assumption) ?_
              try simp only [Act.put, List.setIfInBounds_toArray, List.set_cons_zero, List.set_cons_succ]
              refine wpAnyH_take (i := 7) (oi := { dst := some 58, op := Op.load 41 (Operand.tmp 11), type := 41, pos := "l7_mail.go:99", after := #[{ on := 2, ground := Ground.guard }], guard := some (2, false) }) (v := undef) rfl (by kernel_rfl) (by kernel_rfl) (by kernel_rfl) (fun _ _ _ h => h) (Or.inr ⟨by rfl, rfl⟩) (by assumption) ?_
              try simp only [Act.put, List.setIfInBounds_toArray, List.set_cons_zero, List.set_cons_succ]
              refine wpAnyH_take (i := 8) (oi := { dst := some 59, op := Op.call { callee := Callee.value (Operand.tmp 57), args := #[Operand.tmp 58], argTypes := #[41] }, type := 4, pos := "l7_mail.go:99", after := #[{ on := 6, ground := Ground.data }, { on := 7, ground := Ground.data }, { on := 2, ground := Ground.chain }, { on := 2, ground := Ground.guard }], guard := some (2, false) }) (v := undef) rfl (by kernel_rfl) (by kernel_rfl) (by kernel_rfl) (fun _ _ _ h => h) (Or.inr ⟨by rfl, rfl⟩) (by assumption) ?_
              try simp only [Act.put, List.setIfInBounds_toArray, List.set_cons_zero, List.set_cons_succ]
              refine wpAnyH_take (i := 9) (oi := { dst := some 60, op := Op.unOp UnOp.not 4 (Operand.tmp 59), type := 4, pos := "l7_mail.go:99", after := #[{ on := 8, ground := Ground.data }, { on := 2, ground := Ground.guard }], guard := some (2, false) }) (v := undef) rfl (by kernel_rfl) (by kernel_rfl) (by kernel_rfl) (fun _ _ _ h => h) (Or.inr ⟨by rfl, rfl⟩) (by assumption) ?_
              try simp only [Act.put, List.setIfInBounds_toArray, List.set_cons_zero, List.set_cons_succ]
              refine wpAnyH_take (i := 10) (oi := { dst := some 61, op := Op.pick (Operand.tmp 53) (Operand.const (Value.bool true)) (Operand.tmp 60), type := 4, pos := "l7_mail.go:99", after := #[{ on := 2, ground := Ground.data }, { on := 9, ground := Ground.data }], guard := none }) (v := ?_) rfl (by kernel_rfl) (by kernel_rfl) (by kernel_rfl) (fun _ _ _ h => h) (Or.inl ⟨by rfl, ?_⟩) (by assumption) ?_
              rotate_left
              · intro wq hSw
                (try dsimp only at hSw)
                go_simp
                try with_reducible rfl
              try simp only [Act.put, List.setIfInBounds_toArray, List.set_cons_zero, List.set_cons_succ]
              refine wpAnyH_done (by kernel_rfl) ?_ _
              clear hHeld
              go_wp2_with (refine wpList_store_blk rfl 41 (.tmp 2) (.tmp 62) rfl w.heap.size 0 rfl zG rfl (blk_some (BlkAt.drewW HRU.out) zG rfl) (OpnAt.drewW HOU.out) (by simp [zG, Value.oneCell']) (by kernel_rfl) rfl ?_)
              exact finM_no HN.out rfl rfl rfl (BlkAt.drewW HRU.out) hBU.drew
            · have HKD : Hid (x.kd = 3) := hkd rfl
              go_wp2_with fail
              refine wp_region_held_drew (S := (fun u => BlkAt u Bm (x.c ai ci) ∧ u.cell? ⟨Wb, 13, none⟩ = some (.func (.func 82) #[] #[]))) (by kernel_rfl) ?_ (fun hHeld => ?_)
              · exact ⟨HM.out, HWU.out 13 _ rfl⟩
              refine wpAnyH_take (i := 0) (oi := { dst := some 51, op := Op.move (Operand.tmp 12), type := 4, pos := "l7_mail.go:99", after := #[], guard := none }) (v := ?_) rfl (by kernel_rfl) (by kernel_rfl) (by kernel_rfl) (fun _ _ _ h => h) (Or.inl ⟨by rfl, ?_⟩) (by assumption) ?_
              rotate_left
              · intro wq hSw
                (try dsimp only at hSw)
                go_simp
                try with_reducible rfl
              try simp only [Act.put, List.setIfInBounds_toArray, List.set_cons_zero, List.set_cons_succ]
              refine wpAnyH_take (i := 1) (oi := { dst := some 52, op := Op.unOp UnOp.not 4 (Operand.tmp 51), type := 4, pos := "l7_mail.go:99", after := #[{ on := 0, ground := Ground.data }], guard := none }) (v := ?_) rfl (by kernel_rfl) (by kernel_rfl) (by kernel_rfl) (fun _ _ _ h => h) (Or.inl ⟨by rfl, ?_⟩) (by assumption) ?_
              rotate_left
              · intro wq hSw
                (try dsimp only at hSw)
                go_simp
                try with_reducible rfl
              try simp only [Act.put, List.setIfInBounds_toArray, List.set_cons_zero, List.set_cons_succ]
              refine wpAnyH_take (i := 2) (oi := { dst := some 53, op := Op.move (Operand.tmp 52), type := 4, pos := "l7_mail.go:99", after := #[{ on := 1, ground := Ground.data }], guard := none }) (v := ?_) rfl (by kernel_rfl) (by kernel_rfl) (by kernel_rfl) (fun _ _ _ h => h) (Or.inl ⟨by rfl, ?_⟩) (by assumption) ?_
              rotate_left
              · intro wq hSw
                (try dsimp only at hSw)
                go_simp
                try with_reducible rfl
              try simp only [Act.put, List.setIfInBounds_toArray, List.set_cons_zero, List.set_cons_succ]
              refine wpAnyH_take (i := 3) (oi := { dst := some 54, op := Op.move (Operand.tmp 10), type := 3, pos := "l7_mail.go:99", after := #[{ on := 2, ground := Ground.guard }], guard := some (2, false) }) (v := ?_) rfl (by kernel_rfl) (by kernel_rfl) (by kernel_rfl) (fun _ _ _ h => h) (Or.inl ⟨by rfl, ?_⟩) (by assumption) ?_
              rotate_left
              · intro wq hSw
                (try dsimp only at hSw)
                go_simp
                try with_reducible rfl
              try simp only [Act.put, List.setIfInBounds_toArray, List.set_cons_zero, List.set_cons_succ]
              refine wpAnyH_take (i := 4) (oi := { dst := some 55, op := Op.indexAddr 75 (Operand.tmp 9) (Operand.tmp 54), type := 0, pos := "l7_mail.go:99", after := #[{ on := 3, ground := Ground.data }, { on := 2, ground := Ground.guard }], guard := some (2, false) }) (v := ?_) rfl (by kernel_rfl) (by kernel_rfl) (by kernel_rfl) (fun _ _ _ h => h) (Or.inl ⟨by rfl, ?_⟩) (by assumption) ?_
              rotate_left
              · intro wq hSw
                (try dsimp only at hSw)
                go_simp
                try with_reducible rfl
              try simp only [Act.put, List.setIfInBounds_toArray, List.set_cons_zero, List.set_cons_succ]
              refine wpAnyH_take (i := 5) (oi := { dst := some 56, op := Op.fieldAddr 74 (Operand.tmp 55) 1, type := 0, pos := "l7_mail.go:99", after := #[{ on := 4, ground := Ground.data }, { on := 2, ground := Ground.guard }], guard := some (2, false) }) (v := ?_) rfl (by kernel_rfl) (by kernel_rfl) (by kernel_rfl) (fun _ _ _ h => h) (Or.inl ⟨by rfl, ?_⟩) (by assumption) ?_
              rotate_left
              · intro wq hSw
                (try dsimp only at hSw)
                go_simp
                try with_reducible rfl
              try simp only [Act.put, List.setIfInBounds_toArray, List.set_cons_zero, List.set_cons_succ]
              refine wpAnyH_take (i := 6) (oi := { dst := some 57, op := Op.load 60 (Operand.tmp 56), type := 60, pos := "l7_mail.go:99", after := #[{ on := 5, ground := Ground.data }, { on := 2, ground := Ground.guard }], guard := some (2, false) }) (v := ?_) rfl (by kernel_rfl) (by kernel_rfl) (by kernel_rfl) (fun _ _ _ h => h) (Or.inl ⟨by rfl, ?_⟩) (by assumption) ?_
              rotate_left
              · intro wq hSw
                (try dsimp only at hSw)
                go_simp
                try with_reducible rfl
              try simp only [Act.put, List.setIfInBounds_toArray, List.set_cons_zero, List.set_cons_succ]
              refine wpAnyH_take (i := 7) (oi := { dst := some 58, op := Op.load 41 (Operand.tmp 11), type := 41, pos := "l7_mail.go:99", after := #[{ on := 2, ground := Ground.guard }], guard := some (2, false) }) (v := .agg ((x.c ai ci) : List Value).toArray) rfl (by kernel_rfl) (by kernel_rfl) (by kernel_rfl) (fun _ _ _ h => h) (Or.inl ⟨by rfl, ?_⟩) (by assumption) ?_
              · intro wq hSw
                have hq := run_loadVar_blk (P := Tryz.prog) wq Bm 41 (x.c ai ci) _ hSw.1 Tryz.underlying41 rfl (by kernel_rfl)
                have hg := load_ex hq
                first
                  | exact hg
                  | (simp only [execOp, Sem.run_bind, Sem.run_pure]; exact hg)
                  | (unfold execOp; simp only [Sem.run_bind, Sem.run_pure]; exact hg)
              try simp only [Act.put, List.setIfInBounds_toArray, List.set_cons_zero, List.set_cons_succ]
              refine wpAnyH_ready (rs := [8]) (by kernel_rfl) (by simp) ?_
              refine AllReadyH.cons (o := { dst := some 59, op := Op.call { callee := Callee.value (Operand.tmp 57), args := #[Operand.tmp 58], argTypes := #[41] }, type := 4, pos := "l7_mail.go:99", after := #[{ on := 6, ground := Ground.data }, { on := 7, ground := Ground.data }, { on := 2, ground := Ground.chain }, { on := 2, ground := Ground.guard }], guard := some (2, false) }) rfl (fun K hK => ?_) AllReadyH.nil
              go_simp
              refine (c82v x ai ci _ HKD.out hle (lks_below HLK.out.at' ((Below.refl _ _).drew))).mono ?_
              rintro e w6 ⟨⟨r, rfl, hrr⟩, hb6⟩
              have hbd : Below U.heap.size U w6 := ((Below.refl _ _).drew).trans hb6
              have HRR : Hid (r = true ↔ HereOk x) := hrr
              clear hb6 hrr
              have HM6 : BlkAt w6 Bm (x.c ai ci) := HM.out.below hbd hBm
              have HR6 : BlkAt w6 w.heap.size zG := HRU.out.below hbd hRz
              have HO6 : OpnAt w6 w.heap.size := HOU.out.below hbd hRz
              have hB6 : Below w.heap.size w w6 := hBU.trans (hbd.mono hBU.size)
              have HLK6 : LkOwn w6 (w.heap.size + 1) ai x.ls := lkown_bel HLK.out hbd
              go_wp2_with fail
              clear hHeld
              refine hK.out _ _ ?_ (fun hHeld => ?_)
              · exact ⟨HM6, (hbd.cell (p := ⟨Wb, 13, none⟩) hWz).trans (HWU.out 13 _ rfl)⟩
              clear hK K
              try simp only [Act.put, List.setIfInBounds_toArray, List.set_cons_zero, List.set_cons_succ]
              refine wpAnyH_take (i := 9) (oi := { dst := some 60, op := Op.unOp UnOp.not 4 (Operand.tmp 59), type := 4, pos := "l7_mail.go:99", after := #[{ on := 8, ground := Ground.data }, { on := 2, ground := Ground.guard }], guard := some (2, false) }) (v := ?_) rfl (by kernel_rfl) (by kernel_rfl) (by kernel_rfl) (fun _ _ _ h => h) (Or.inl ⟨by rfl, ?_⟩) (by assumption) ?_
              rotate_left
              · intro wq hSw
                (try dsimp only at hSw)
                go_simp
                try with_reducible rfl
              try simp only [Act.put, List.setIfInBounds_toArray, List.set_cons_zero, List.set_cons_succ]
              refine wpAnyH_take (i := 10) (oi := { dst := some 61, op := Op.pick (Operand.tmp 53) (Operand.const (Value.bool true)) (Operand.tmp 60), type := 4, pos := "l7_mail.go:99", after := #[{ on := 2, ground := Ground.data }, { on := 9, ground := Ground.data }], guard := none }) (v := ?_) rfl (by kernel_rfl) (by kernel_rfl) (by kernel_rfl) (fun _ _ _ h => h) (Or.inl ⟨by rfl, ?_⟩) (by assumption) ?_
              rotate_left
              · intro wq hSw
                (try dsimp only at hSw)
                go_simp
                try with_reducible rfl
              try simp only [Act.put, List.setIfInBounds_toArray, List.set_cons_zero, List.set_cons_succ]
              refine wpAnyH_done (by kernel_rfl) ?_ _
              clear hHeld
              cases r
              · have HN : Hid (RdMail s.data.toList g16z false) := (rdMail_kind (by decide) hen.out hfb.out hwd.out HRD.out).2 (fun h => by
                  have h2 : HereOk x := by
                    have hq := HKD.out
                    rcases h.2 with ⟨h, h'⟩ | ⟨h, h'⟩ | ⟨h, h'⟩ <;> first | exact h' | (exfalso; omega)
                  exact absurd (HRR.out.2 h2) (by decide)) g16z
                clear HRD
                go_wp2_with (refine wpList_store_blk rfl 41 (.tmp 2) (.tmp 62) rfl w.heap.size 0 rfl zG rfl (blk_some HR6 zG rfl) HO6 (by simp [zG, Value.oneCell']) (by kernel_rfl) rfl ?_)
                exact finM_no HN.out rfl rfl rfl HR6 hB6
              · have HN : Hid (RdMail s.data.toList x true) := (rdMail_kind (by decide) hen.out hfb.out hwd.out HRD.out).1 rfl (.inr (.inr ⟨HKD.out, HRR.out.1 rfl⟩))
                clear HRD
                go_wp2_with (first | refine wpList_load_blk rfl 41 (.tmp 11) rfl Bm rfl (x.c ai ci) _ HM6 Tryz.underlying41 rfl (by kernel_rfl) ?_ | refine wpList_store_blk rfl 41 (.tmp 2) (.tmp 63) rfl w.heap.size 0 rfl (x.c ai ci) rfl (blk_some HR6 _ rfl) HO6 (G16.c_one _ _ _) (by kernel_rfl) rfl ?_)
                exact finM_yes x ai ci HN.out hle HLK6 rfl rfl rfl HR6 hB6
          · have hWB : Below W0.heap.size W0 (W0.alloc (.cells #[.int .i64 0, .int .i64 0, .int .i64 0, .int .i64 0, .int .i64 0, .string ⟨#[]⟩, .string ⟨#[]⟩, .string ⟨#[]⟩, .slice none 0 0, .int .i64 0, .bool false, .int .i64 0, .string ⟨#[]⟩, .bool false, .string ⟨#[]⟩, .int .i64 0] 41)).drew := ((Below.refl _ _).alloc (Nat.le_refl _) _).drew
            have hNB : BlkAt (W0.alloc (.cells #[.int .i64 0, .int .i64 0, .int .i64 0, .int .i64 0, .int .i64 0, .string ⟨#[]⟩, .string ⟨#[]⟩, .string ⟨#[]⟩, .slice none 0 0, .int .i64 0, .bool false, .int .i64 0, .string ⟨#[]⟩, .bool false, .string ⟨#[]⟩, .int .i64 0] 41)).drew W0.heap.size zG := BlkAt.drewW (blk_new W0 zG 41)
            have hOB : OpnAt (W0.alloc (.cells #[.int .i64 0, .int .i64 0, .int .i64 0, .int .i64 0, .int .i64 0, .string ⟨#[]⟩, .string ⟨#[]⟩, .string ⟨#[]⟩, .slice none 0 0, .int .i64 0, .bool false, .int .i64 0, .string ⟨#[]⟩, .bool false, .string ⟨#[]⟩, .int .i64 0] 41)).drew W0.heap.size := OpnAt.drewW (opn_new W0 _ 41)
            have hzB : (W0.alloc (.cells #[.int .i64 0, .int .i64 0, .int .i64 0, .int .i64 0, .int .i64 0, .string ⟨#[]⟩, .string ⟨#[]⟩, .string ⟨#[]⟩, .slice none 0 0, .int .i64 0, .bool false, .int .i64 0, .string ⟨#[]⟩, .bool false, .string ⟨#[]⟩, .int .i64 0] 41)).drew.heap.size = W0.heap.size + 1 := by simp
            go_simp
            clear hHeld
            refine hK.out _ _ ?_ (fun hHeld => ?_)
            · exact (hWB.cell (p := ⟨Wb, 15, none⟩) hWz).trans (HWA.out 15 _ rfl)
            clear hK K
            try simp only [Act.put, List.setIfInBounds_toArray, List.set_cons_zero, List.set_cons_succ]
            refine wpAnyH_ready (rs := [7]) (by kernel_rfl) (by simp) ?_
            refine AllReadyH.cons (o := { dst := some 48, op := Op.call { callee := Callee.value (Operand.tmp 44), args := #[Operand.tmp 45, Operand.tmp 47], argTypes := #[9, 80] }, type := 52, pos := "l7_mail.go:98", after := #[{ on := 3, ground := Ground.data }, { on := 4, ground := Ground.data }, { on := 6, ground := Ground.data }], guard := none }) rfl (fun K hK => ?_) AllReadyH.nil
            go_simp
            refine (c84v (restOf f) b g o1 b.length _ hrs (max_below hm0 hWB) hbl (linesIn_below hln0 hWB) HBS.out).mono ?_
            rintro e w5 ⟨⟨x, ok, ai, ci, rfl, hrd, hkd, hle, hlk⟩, hb5⟩
            have hbc : Below W0.heap.size W0 w5 := hWB.trans (hb5.mono (by rw [hzB]; omega))
            go_wp2_with fail
            clear hHeld
            refine hK.out _ _ ?_ (fun hHeld => ?_)
            · exact (hbc.cell (p := ⟨Wb, 15, none⟩) hWz).trans (HWA.out 15 _ rfl)
            clear hK K
            try simp only [Act.put, List.setIfInBounds_toArray, List.set_cons_zero, List.set_cons_succ]
            refine wpAnyH_take (i := 8) (oi := { dst := some 40, op := Op.move (Operand.tmp 48), type := 52, pos := "l7_mail.go:98", after := #[{ on := 7, ground := Ground.data }], guard := none }) (v := ?_) rfl (by kernel_rfl) (by kernel_rfl) (by kernel_rfl) (fun _ _ _ h => h) (Or.inl ⟨by rfl, ?_⟩) (by assumption) ?_
            rotate_left
            · intro wq hSw
              (try dsimp only at hSw)
              go_simp
              try with_reducible rfl
            try simp only [Act.put, List.setIfInBounds_toArray, List.set_cons_zero, List.set_cons_succ]
            refine wpAnyH_take (i := 9) (oi := { dst := some 49, op := Op.extract (Operand.tmp 40) 0, type := 41, pos := "l7_mail.go:98", after := #[{ on := 8, ground := Ground.data }], guard := none }) (v := ?_) rfl (by kernel_rfl) (by kernel_rfl) (by kernel_rfl) (fun _ _ _ h => h) (Or.inl ⟨by rfl, ?_⟩) (by assumption) ?_
            rotate_left
            · intro wq hSw
              (try dsimp only at hSw)
              go_simp
              try with_reducible rfl
            try simp only [Act.put, List.setIfInBounds_toArray, List.set_cons_zero, List.set_cons_succ]
            refine wpAnyH_take (i := 10) (oi := { dst := some 50, op := Op.extract (Operand.tmp 40) 1, type := 4, pos := "l7_mail.go:98", after := #[{ on := 8, ground := Ground.data }, { on := 12, ground := Ground.gcOnly Departure.lateStores }], guard := none }) (v := ?_) rfl (by kernel_rfl) (by kernel_rfl) (by kernel_rfl) (fun _ _ _ h => h) (Or.inl ⟨by rfl, ?_⟩) (by assumption) ?_
            rotate_left
            · intro wq hSw
              (try dsimp only at hSw)
              go_simp
              try with_reducible rfl
            try simp only [Act.put, List.setIfInBounds_toArray, List.set_cons_zero, List.set_cons_succ]
            have hN5 : BlkAt w5 W0.heap.size zG := hNB.below hb5 (by rw [hzB]; omega)
            have hO5 : OpnAt w5 W0.heap.size := hOB.below hb5 (by rw [hzB]; omega)
            refine wpAnyH_ready (rs := [12]) (by kernel_rfl) (by simp) ?_
            refine AllReadyH.cons (o := { dst := none, op := Op.store 41 (Operand.tmp 11) (Operand.tmp 49), type := 0, pos := "l7_mail.go:98", after := #[{ on := 11, ground := Ground.data }, { on := 9, ground := Ground.data }, { on := 7, ground := Ground.chain }, { on := 0, ground := Ground.phase }, { on := 1, ground := Ground.phase }, { on := 2, ground := Ground.phase }, { on := 3, ground := Ground.phase }, { on := 4, ground := Ground.phase }, { on := 5, ground := Ground.phase }, { on := 6, ground := Ground.phase }, { on := 7, ground := Ground.phase }, { on := 8, ground := Ground.phase }, { on := 9, ground := Ground.phase }, { on := 10, ground := Ground.textOnly Departure.lateStores }, { on := 11, ground := Ground.phase }], guard := none }) rfl (fun K hK => ?_) AllReadyH.nil
            refine step_store_blk rfl 41 (.tmp 11) (.tmp 49) rfl W0.heap.size 0 rfl (x.c ai ci) rfl (blk_some hN5 _ rfl) hO5 (G16.c_one _ _ _) (by kernel_rfl) rfl ?_
            clear hHeld
            refine hK.out _ _ ?_ (fun hHeld => ?_)
            · exact (cell_fill _ 0 ⟨Wb, 15, none⟩ (by show Wb ≠ W0.heap.size; omega)).trans ((hbc.cell (p := ⟨Wb, 15, none⟩) hWz).trans (HWA.out 15 _ rfl))
            clear hK K
            try simp only [Act.put, List.setIfInBounds_toArray, List.set_cons_zero, List.set_cons_succ]
            refine wpAnyH_take (i := 13) (oi := { dst := some 12, op := Op.assign (Operand.tmp 50), type := 4, pos := "l7_mail.go:98", after := #[{ on := 10, ground := Ground.data }, { on := 12, ground := Ground.chain }, { on := 0, ground := Ground.phase }, { on := 1, ground := Ground.phase }, { on := 2, ground := Ground.phase }, { on := 3, ground := Ground.phase }, { on := 4, ground := Ground.phase }, { on := 5, ground := Ground.phase }, { on := 6, ground := Ground.phase }, { on := 7, ground := Ground.phase }, { on := 8, ground := Ground.phase }, { on := 9, ground := Ground.phase }, { on := 10, ground := Ground.phase }, { on := 11, ground := Ground.phase }, { on := 12, ground := Ground.phase }], guard := none }) (v := ?_) rfl (by kernel_rfl) (by kernel_rfl) (by kernel_rfl) (fun _ _ _ h => h) (Or.inl ⟨by rfl, ?_⟩) (by assumption) ?_
            rotate_left
            · intro wq hSw
              (try dsimp only at hSw)
              go_simp
              try with_reducible rfl
            try simp only [Act.put, List.setIfInBounds_toArray, List.set_cons_zero, List.set_cons_succ]
            refine wpAnyH_done (by kernel_rfl) ?_ _
            clear hHeld
            have hz5 : W0.heap.size + 1 ≤ w5.heap.size := by have h := hb5.size; rw [hzB] at h; exact h
            obtain ⟨U, hU⟩ : ∃ U, U = fill w5 W0.heap.size 0 (x.c ai ci) := ⟨_, rfl⟩
            have hzU : U.heap.size = w5.heap.size := by rw [hU, size_fill]
            obtain ⟨Bm, hBmE⟩ : ∃ Bm, Bm = W0.heap.size := ⟨_, rfl⟩
            have HM : Hid (BlkAt U Bm (x.c ai ci)) := by
              rw [hU, hBmE]
              exact BlkAt.fill (B := W0.heap.size) (x.c ai ci) [] zG [] 0 hN5 rfl rfl
            have hBm : Bm < U.heap.size := by omega
            have hBW : Below W0.heap.size W0 U := hU ▸ below_fill (Nat.le_refl _) _ 0 hbc
            have HLK : Hid (LkOwn U (w.heap.size + 1) ai x.ls) := by
              have hlk2 : LkOwn w5 (W0.heap.size + 1) ai x.ls := hlk.mono (by rw [hzB]; exact Nat.le_refl _)
              rw [hU]
              exact (lkown_fill W0.heap.size (x.c ai ci) (by omega) 0 hlk2).mono (by omega)
            rw [← hU]
            rw [← hBmE]
            clear hU hlk hb5 hN5 hO5 hNB hOB hWB hzB hbc hBmE hzU
            have HWU : Hid (BlkAt U Wb wayL) := HWA.out.below hBW hWz
            have HRU : Hid (BlkAt U w.heap.size zG) := HRA.out.below hBW (by omega)
            have HOU : Hid (OpnAt U w.heap.size) := HOA.out.below hBW (by omega)
            have hBU : Below w.heap.size w U := hBw0.trans (hBW.mono (by omega))
            have hRz : w.heap.size < U.heap.size := Nat.lt_of_lt_of_le hRz0 hBW.size
            have hWz' : Wb < U.heap.size := Nat.lt_of_lt_of_le hWz hBW.size
            have HRD : Hid (RdMsg 3 (restOf f) b x ok) := hrd
            clear hWz
            rename Wb < U.heap.size => hWz
            clear hrd hBW
            cases ok
            · have HN : Hid (RdMail s.data.toList g16z false) := (rdMail_kind (by decide) hen.out hfb.out hwd.out HRD.out).2 (fun h => by cases h.1) g16z
              clear HRD
              go_wp2_with fail
              refine wp_region_held_drew (S := (fun _ => True)) (by kernel_rfl) ?_ (fun hHeld => ?_)
              · ((try dsimp only); (try trivial))
              refine wpAnyH_take (i := 0) (oi := { dst := some 51, op := Op.move (Operand.tmp 12), type := 4, pos := "l7_mail.go:99", after := #[], guard := none }) (v := ?_) rfl (by kernel_rfl) (by kernel_rfl) (by kernel_rfl) (fun _ _ _ h => h) (Or.inl ⟨by rfl, ?_⟩) (by assumption) ?_
              rotate_left
              · intro wq hSw
                (try dsimp only at hSw)
                go_simp
                try with_reducible rfl
              try simp only [Act.put, List.setIfInBounds_toArray, List.set_cons_zero, List.set_cons_succ]
              refine wpAnyH_take (i := 1) (oi := { dst := some 52, op := Op.unOp UnOp.not 4 (Operand.tmp 51), type := 4, pos := "l7_mail.go:99", after := #[{ on := 0, ground := Ground.data }], guard := none }) (v := ?_) rfl (by kernel_rfl) (by kernel_rfl) (by kernel_rfl) (fun _ _ _ h => h) (Or.inl ⟨by rfl, ?_⟩) (by assumption) ?_
              rotate_left
              · intro wq hSw
                (try dsimp only at hSw)
                go_simp
                try with_reducible rfl
              try simp only [Act.put, List.setIfInBounds_toArray, List.set_cons_zero, List.set_cons_succ]
              refine wpAnyH_take (i := 2) (oi := { dst := some 53, op := Op.move (Operand.tmp 52), type := 4, pos := "l7_mail.go:99", after := #[{ on := 1, ground := Ground.data }], guard := none }) (v := ?_) rfl (by kernel_rfl) (by kernel_rfl) (by kernel_rfl) (fun _ _ _ h => h) (Or.inl ⟨by rfl, ?_⟩) (by assumption) ?_
              rotate_left
              · intro wq hSw
                (try dsimp only at hSw)
                go_simp
                try with_reducible rfl
              try simp only [Act.put, List.setIfInBounds_toArray, List.set_cons_zero, List.set_cons_succ]
              refine wpAnyH_take (i := 3) (oi := { dst := some 54, op := Op.move (Operand.tmp 10), type := 3, pos := "l7_mail.go:99", after := #[{ on := 2, ground := Ground.guard }], guard := some (2, false) }) (v := undef) rfl (by kernel_rfl) (by kernel_rfl) (by kernel_rfl) (fun _ _ _ h => h) (Or.inr ⟨by rfl, rfl⟩) (by assumption) ?_
              try simp only [Act.put, List.setIfInBounds_toArray, List.set_cons_zero, List.set_cons_succ]
              refine wpAnyH_take (i := 4) (oi := { dst := some 55, op := Op.indexAddr 75 (Operand.tmp 9) (Operand.tmp 54), type := 0, pos := "l7_mail.go:99", after := #[{ on := 3, ground := Ground.data }, { on := 2, ground := Ground.guard }], guard := some (2, false) }) (v := undef) rfl (by kernel_rfl) (by kernel_rfl) (by kernel_rfl) (fun _ _ _ h => h) (Or.inr ⟨by rfl, rfl⟩) (by assumption) ?_
              try simp only [Act.put, List.setIfInBounds_toArray, List.set_cons_zero, List.set_cons_succ]
              refine wpAnyH_take (i := 5) (oi := { dst := some 56, op := Op.fieldAddr 74 (Operand.tmp 55) 1, type := 0, pos := "l7_mail.go:99", after := #[{ on := 4, ground := Ground.data }, { on := 2, ground := Ground.guard }], guard := some (2, false) }) (v := undef) rfl (by kernel_rfl) (by kernel_rfl) (by kernel_rfl) (fun _ _ _ h => h) (Or.inr ⟨by rfl, rfl⟩) (by assumption) ?_
              try simp only [Act.put, List.setIfInBounds_toArray, List.set_cons_zero, List.set_cons_succ]
              refine wpAnyH_take (i := 6) (oi := { dst := some 57, op := Op.load 60 (Operand.tmp 56), type := 60, pos := "l7_mail.go:99", after := #[{ on := 5, ground := Ground.data }, { on := 2, ground := Ground.guard }], guard := some (2, false) }) (v := undef) rfl (by kernel_rfl) (by kernel_rfl) (by kernel_rfl) (fun _ _ _ h => h) (Or.inr ⟨by rfl, rfl⟩) (by assumption) ?_
              try simp only [Act.put, List.setIfInBounds_toArray, List.set_cons_zero, List.set_cons_succ]
              refine wpAnyH_take (i := 7) (oi := { dst := some 58, op := Op.load 41 (Operand.tmp 11), type := 41, pos := "l7_mail.go:99", after := #[{ on := 2, ground := Ground.guard }], guard := some (2, false) }) (v := undef) rfl (by kernel_rfl) (by kernel_rfl) (by kernel_rfl) (fun _ _ _ h => h) (Or.inr ⟨by rfl, rfl⟩) (by assumption) ?_
              try simp only [Act.put, List.setIfInBounds_toArray, List.set_cons_zero, List.set_cons_succ]
              refine wpAnyH_take (i := 8) (oi := { dst := some 59, op := Op.call { callee := Callee.value (Operand.tmp 57), args := #[Operand.tmp 58], argTypes := #[41] }, type := 4, pos := "l7_mail.go:99", after := #[{ on := 6, ground := Ground.data }, { on := 7, ground := Ground.data }, { on := 2, ground := Ground.chain }, { on := 2, ground := Ground.guard }], guard := some (2, false) }) (v := undef) rfl (by kernel_rfl) (by kernel_rfl) (by kernel_rfl) (fun _ _ _ h => h) (Or.inr ⟨by rfl, rfl⟩) (by assumption) ?_
              try simp only [Act.put, List.setIfInBounds_toArray, List.set_cons_zero, List.set_cons_succ]
              refine wpAnyH_take (i := 9) (oi := { dst := some 60, op := Op.unOp UnOp.not 4 (Operand.tmp 59), type := 4, pos := "l7_mail.go:99", after := #[{ on := 8, ground := Ground.data }, { on := 2, ground := Ground.guard }], guard := some (2, false) }) (v := undef) rfl (by kernel_rfl) (by kernel_rfl) (by kernel_rfl) (fun _ _ _ h => h) (Or.inr ⟨by rfl, rfl⟩) (by assumption) ?_
              try simp only [Act.put, List.setIfInBounds_toArray, List.set_cons_zero, List.set_cons_succ]
              refine wpAnyH_take (i := 10) (oi := { dst := some 61, op := Op.pick (Operand.tmp 53) (Operand.const (Value.bool true)) (Operand.tmp 60), type := 4, pos := "l7_mail.go:99", after := #[{ on := 2, ground := Ground.data }, { on := 9, ground := Ground.data }], guard := none }) (v := ?_) rfl (by kernel_rfl) (by kernel_rfl) (by kernel_rfl) (fun _ _ _ h => h) (Or.inl ⟨by rfl, ?_⟩) (by assumption) ?_
              rotate_left
              · intro wq hSw
                (try dsimp only at hSw)
                go_simp
                try with_reducible rfl
              try simp only [Act.put, List.setIfInBounds_toArray, List.set_cons_zero, List.set_cons_succ]
              refine wpAnyH_done (by kernel_rfl) ?_ _
              clear hHeld
              go_wp2_with (refine wpList_store_blk rfl 41 (.tmp 2) (.tmp 62) rfl w.heap.size 0 rfl zG rfl (blk_some (BlkAt.drewW HRU.out) zG rfl) (OpnAt.drewW HOU.out) (by simp [zG, Value.oneCell']) (by kernel_rfl) rfl ?_)
              exact finM_no HN.out rfl rfl rfl (BlkAt.drewW HRU.out) hBU.drew
            · have HKD : Hid (x.kd = 3) := hkd rfl
              go_wp2_with fail
              refine wp_region_held_drew (S := (fun u => BlkAt u Bm (x.c ai ci) ∧ u.cell? ⟨Wb, 13, none⟩ = some (.func (.func 82) #[] #[]))) (by kernel_rfl) ?_ (fun hHeld => ?_)
              · exact ⟨HM.out, HWU.out 13 _ rfl⟩
              refine wpAnyH_take (i := 0) (oi := { dst := some 51, op := Op.move (Operand.tmp 12), type := 4, pos := "l7_mail.go:99", after := #[], guard := none }) (v := ?_) rfl (by kernel_rfl) (by kernel_rfl) (by kernel_rfl) (fun _ _ _ h => h) (Or.inl ⟨by rfl, ?_⟩) (by assumption) ?_
              rotate_left
              · intro wq hSw
                (try dsimp only at hSw)
                go_simp
                try with_reducible rfl
              try simp only [Act.put, List.setIfInBounds_toArray, List.set_cons_zero, List.set_cons_succ]
              refine wpAnyH_take (i := 1) (oi := { dst := some 52, op := Op.unOp UnOp.not 4 (Operand.tmp 51), type := 4, pos := "l7_mail.go:99", after := #[{ on := 0, ground := Ground.data }], guard := none }) (v := ?_) rfl (by kernel_rfl) (by kernel_rfl) (by kernel_rfl) (fun _ _ _ h => h) (Or.inl ⟨by rfl, ?_⟩) (by assumption) ?_
              rotate_left
              · intro wq hSw
                (try dsimp only at hSw)
                go_simp
                try with_reducible rfl
              try simp only [Act.put, List.setIfInBounds_toArray, List.set_cons_zero, List.set_cons_succ]
              refine wpAnyH_take (i := 2) (oi := { dst := some 53, op := Op.move (Operand.tmp 52), type := 4, pos := "l7_mail.go:99", after := #[{ on := 1, ground := Ground.data }], guard := none }) (v := ?_) rfl (by kernel_rfl) (by kernel_rfl) (by kernel_rfl) (fun _ _ _ h => h) (Or.inl ⟨by rfl, ?_⟩) (by assumption) ?_
              rotate_left
              · intro wq hSw
                (try dsimp only at hSw)
                go_simp
                try with_reducible rfl
              try simp only [Act.put, List.setIfInBounds_toArray, List.set_cons_zero, List.set_cons_succ]
              refine wpAnyH_take (i := 3) (oi := { dst := some 54, op := Op.move (Operand.tmp 10), type := 3, pos := "l7_mail.go:99", after := #[{ on := 2, ground := Ground.guard }], guard := some (2, false) }) (v := ?_) rfl (by kernel_rfl) (by kernel_rfl) (by kernel_rfl) (fun _ _ _ h => h) (Or.inl ⟨by rfl, ?_⟩) (by assumption) ?_
              rotate_left
              · intro wq hSw
                (try dsimp only at hSw)
                go_simp
                try with_reducible rfl
              try simp only [Act.put, List.setIfInBounds_toArray, List.set_cons_zero, List.set_cons_succ]
              refine wpAnyH_take (i := 4) (oi := { dst := some 55, op := Op.indexAddr 75 (Operand.tmp 9) (Operand.tmp 54), type := 0, pos := "l7_mail.go:99", after := #[{ on := 3, ground := Ground.data }, { on := 2, ground := Ground.guard }], guard := some (2, false) }) (v := ?_) rfl (by kernel_rfl) (by kernel_rfl) (by kernel_rfl) (fun _ _ _ h => h) (Or.inl ⟨by rfl, ?_⟩) (by assumption) ?_
              rotate_left
              · intro wq hSw
                (try dsimp only at hSw)
                go_simp
                try with_reducible rfl
              try simp only [Act.put, List.setIfInBounds_toArray, List.set_cons_zero, List.set_cons_succ]
              refine wpAnyH_take (i := 5) (oi := { dst := some 56, op := Op.fieldAddr 74 (Operand.tmp 55) 1, type := 0, pos := "l7_mail.go:99", after := #[{ on := 4, ground := Ground.data }, { on := 2, ground := Ground.guard }], guard := some (2, false) }) (v := ?_) rfl (by kernel_rfl) (by kernel_rfl) (by kernel_rfl) (fun _ _ _ h => h) (Or.inl ⟨by rfl, ?_⟩) (by assumption) ?_
              rotate_left
              · intro wq hSw
                (try dsimp only at hSw)
                go_simp
                try with_reducible rfl
              try simp only [Act.put, List.setIfInBounds_toArray, List.set_cons_zero, List.set_cons_succ]
              refine wpAnyH_take (i := 6) (oi := { dst := some 57, op := Op.load 60 (Operand.tmp 56), type := 60, pos := "l7_mail.go:99", after := #[{ on := 5, ground := Ground.data }, { on := 2, ground := Ground.guard }], guard := some (2, false) }) (v := ?_) rfl (by kernel_rfl) (by kernel_rfl) (by kernel_rfl) (fun _ _ _ h => h) (Or.inl ⟨by rfl, ?_⟩) (by assumption) ?_
              rotate_left
              · intro wq hSw
                (try dsimp only at hSw)
                go_simp
                try with_reducible rfl
              try simp only [Act.put, List.setIfInBounds_toArray, List.set_cons_zero, List.set_cons_succ]
              refine wpAnyH_take (i := 7) (oi := { dst := some 58, op := Op.load 41 (Operand.tmp 11), type := 41, pos := "l7_mail.go:99", after := #[{ on := 2, ground := Ground.guard }], guard := some (2, false) }) (v := .agg ((x.c ai ci) : List Value).toArray) rfl (by kernel_rfl) (by kernel_rfl) (by kernel_rfl) (fun _ _ _ h => h) (Or.inl ⟨by rfl, ?_⟩) (by assumption) ?_
              · intro wq hSw
                have hq := run_loadVar_blk (P := Tryz.prog) wq Bm 41 (x.c ai ci) _ hSw.1 Tryz.underlying41 rfl (by kernel_rfl)
                have hg := load_ex hq
                first
                  | exact hg
                  | (simp only [execOp, Sem.run_bind, Sem.run_pure]; exact hg)
                  | (unfold execOp; simp only [Sem.run_bind, Sem.run_pure]; exact hg)
              try simp only [Act.put, List.setIfInBounds_toArray, List.set_cons_zero, List.set_cons_succ]
              refine wpAnyH_ready (rs := [8]) (by kernel_rfl) (by simp) ?_
              refine AllReadyH.cons (o := { dst := some 59, op := Op.call { callee := Callee.value (Operand.tmp 57), args := #[Operand.tmp 58], argTypes := #[41] }, type := 4, pos := "l7_mail.go:99", after := #[{ on := 6, ground := Ground.data }, { on := 7, ground := Ground.data }, { on := 2, ground := Ground.chain }, { on := 2, ground := Ground.guard }], guard := some (2, false) }) rfl (fun K hK => ?_) AllReadyH.nil
              go_simp
              refine (c82v x ai ci _ HKD.out hle (lks_below HLK.out.at' ((Below.refl _ _).drew))).mono ?_
              rintro e w6 ⟨⟨r, rfl, hrr⟩, hb6⟩
              have hbd : Below U.heap.size U w6 := ((Below.refl _ _).drew).trans hb6
              have HRR : Hid (r = true ↔ HereOk x) := hrr
              clear hb6 hrr
              have HM6 : BlkAt w6 Bm (x.c ai ci) := HM.out.below hbd hBm
              have HR6 : BlkAt w6 w.heap.size zG := HRU.out.below hbd hRz
              have HO6 : OpnAt w6 w.heap.size := HOU.out.below hbd hRz
              have hB6 : Below w.heap.size w w6 := hBU.trans (hbd.mono hBU.size)
              have HLK6 : LkOwn w6 (w.heap.size + 1) ai x.ls := lkown_bel HLK.out hbd
              go_wp2_with fail
              clear hHeld
              refine hK.out _ _ ?_ (fun hHeld => ?_)
              · exact ⟨HM6, (hbd.cell (p := ⟨Wb, 13, none⟩) hWz).trans (HWU.out 13 _ rfl)⟩
              clear hK K
              try simp only [Act.put, List.setIfInBounds_toArray, List.set_cons_zero, List.set_cons_succ]
              refine wpAnyH_take (i := 9) (oi := { dst := some 60, op := Op.unOp UnOp.not 4 (Operand.tmp 59), type := 4, pos := "l7_mail.go:99", after := #[{ on := 8, ground := Ground.data }, { on := 2, ground := Ground.guard }], guard := some (2, false) }) (v := ?_) rfl (by kernel_rfl) (by kernel_rfl) (by kernel_rfl) (fun _ _ _ h => h) (Or.inl ⟨by rfl, ?_⟩) (by assumption) ?_
              rotate_left
              · intro wq hSw
                (try dsimp only at hSw)
                go_simp
                try with_reducible rfl
              try simp only [Act.put, List.setIfInBounds_toArray, List.set_cons_zero, List.set_cons_succ]
              refine wpAnyH_take (i := 10) (oi := { dst := some 61, op := Op.pick (Operand.tmp 53) (Operand.const (Value.bool true)) (Operand.tmp 60), type := 4, pos := "l7_mail.go:99", after := #[{ on := 2, ground := Ground.data }, { on := 9, ground := Ground.data }], guard := none }) (v := ?_) rfl (by kernel_rfl) (by kernel_rfl) (by kernel_rfl) (fun _ _ _ h => h) (Or.inl ⟨by rfl, ?_⟩) (by assumption) ?_
              rotate_left
              · intro wq hSw
                (try dsimp only at hSw)
                go_simp
                try with_reducible rfl
              try simp only [Act.put, List.setIfInBounds_toArray, List.set_cons_zero, List.set_cons_succ]
              refine wpAnyH_done (by kernel_rfl) ?_ _
              clear hHeld
              cases r
              · have HN : Hid (RdMail s.data.toList g16z false) := (rdMail_kind (by decide) hen.out hfb.out hwd.out HRD.out).2 (fun h => by
                  have h2 : HereOk x := by
                    have hq := HKD.out
                    rcases h.2 with ⟨h, h'⟩ | ⟨h, h'⟩ | ⟨h, h'⟩ <;> first | exact h' | (exfalso; omega)
                  exact absurd (HRR.out.2 h2) (by decide)) g16z
                clear HRD
                go_wp2_with (refine wpList_store_blk rfl 41 (.tmp 2) (.tmp 62) rfl w.heap.size 0 rfl zG rfl (blk_some HR6 zG rfl) HO6 (by simp [zG, Value.oneCell']) (by kernel_rfl) rfl ?_)
                exact finM_no HN.out rfl rfl rfl HR6 hB6
              · have HN : Hid (RdMail s.data.toList x true) := (rdMail_kind (by decide) hen.out hfb.out hwd.out HRD.out).1 rfl (.inr (.inr ⟨HKD.out, HRR.out.1 rfl⟩))
                clear HRD
                go_wp2_with (first | refine wpList_load_blk rfl 41 (.tmp 11) rfl Bm rfl (x.c ai ci) _ HM6 Tryz.underlying41 rfl (by kernel_rfl) ?_ | refine wpList_store_blk rfl 41 (.tmp 2) (.tmp 63) rfl w.heap.size 0 rfl (x.c ai ci) rfl (blk_some HR6 _ rfl) HO6 (G16.c_one _ _ _) (by kernel_rfl) rfl ?_)
                exact finM_yes x ai ci HN.out hle HLK6 rfl rfl rfl HR6 hB6
        · have e1 : ([104, 101, 114, 101] == (ofL (wordOf f)).toList) = false := by
            rw [ByteArray.toList_eq, ofL_list]
            exact beq_eq_false_iff_ne.2 (fun e => hw e.symm)
          have e2 : ([104, 101, 114, 101] != (ofL (wordOf f)).toList) = true := by rw [bne, e1]; rfl
          have e3 : ¬ [104, 101, 114, 101] = (ofL (wordOf f)).toList := fun e => by rw [← e] at e1; revert e1; decide
          have HNO : Hid (∀ j : Int, 1 ≤ j → j < 4 → wordOf f ≠ wrdP j) := fun j h1 h2 => by
            by_cases hj : j = 3
            · subst hj; exact hw
            · exact hno.out j h1 (by omega)
          clear hw hno
          go_wp2
          go_roundw
          case rel => exact ⟨4, by omega, by omega, by go_num, by first | rfl | trivial, HNO⟩
          case measure => simp [intOf]
      · have HN : Hid (RdMail s.data.toList g16z false) := rdMail_word hen.out hfb.out (fun j hj => hno.out j (by omega) (by omega)) _
        clear hno
        go_wp2_with (refine wpList_store_blk rfl 41 (.tmp 2) (.tmp 64) rfl w.heap.size 0 rfl zG rfl (blk_some HRA.out zG rfl) HOA.out (by simp [zG, Value.oneCell']) (by kernel_rfl) rfl ?_)
        exact finM_no HN.out rfl rfl rfl HRA.out hBw0
end Go.Proofs.YtdcgjdgpiogdaaaGreatDoor
