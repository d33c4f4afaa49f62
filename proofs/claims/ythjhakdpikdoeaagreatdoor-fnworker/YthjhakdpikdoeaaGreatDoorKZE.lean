import Derived.Test.YthjhakdpikdoeaaGreatDoorKY7
set_option linter.unusedVariables false
set_option maxHeartbeats 8000000
set_option maxRecDepth 100000
namespace Go.Proofs.YthjhakdpikdoeaaGreatDoor.M
open Proofs.Tryz
open Go.RowKit
theorem but_fill {B:Nat} {w:World} (vs:List Value):∀ {u:World} (j:Nat),But B w u->But B w (fill u B j vs):=by
 induction vs with
 | nil=>intro u j h;exact h
 | cons v vs ih=>intro u j h;exact ih (j+1) (h.setCell _ _)
theorem c22 (x:W19) (m:G16) (B:Nat) (b:Option Addr) (n:Nat) (b2:Option Addr) (n2:Nat) (w:World) (hs:m.le 1048576) (Z:BlkAt w B (lsL x.no x.up x.has x.of b n m b2 n2 (.slice none 0 0))) (hB:B<w.heap.size) (hat:LksAt w b2 m.ls):
 Calls prog 22 #[.pointer (some ⟨B,0,none⟩)] w fun e w'=>((x.up=true/\OfferTo x.no m/\e=.returned (.func (.func 52) #[.pointer (some ⟨B,0,none⟩)] #[]))\/(¬ (x.up=true/\OfferTo x.no m)/\e=.returned .nilFunc))/\Below w.heap.size w w':=by
 have HS:Hid (m.le 1048576):=hs;have HAT:Hid (LksAt w b2 m.ls):=hat;have a0:=Z 0 _ rfl;have a1:=Z 1 _ rfl;have a19:=Z 19 _ rfl;have a20:=Z 20 _ rfl;have a21:=Z 21 _ rfl;have a22:=Z 22 _ rfl;have a23:=Z 23 _ rfl;have a24:=Z 24 _ rfl;have a25:=Z 25 _ rfl;have a26:=Z 26 _ rfl;have a27:=Z 27 _ rfl;have a28:=Z 28 _ rfl;have a29:=Z 29 _ rfl;have a30:=Z 30 _ rfl;have a31:=Z 31 _ rfl;have a32:=Z 32 _ rfl;have a33:=Z 33 _ rfl;have a34:=Z 34 _ rfl;clear hs hat Z;cases hup:x.up
 · rw [hup] at a1
   go_enter func22,ntmps22
   go_wp2_with fail
   refine wp_region_held_drew (S:=(fun u=>u.cell? ⟨B,0,none⟩=some (.int .i64 x.no)/\u.cell? ⟨B,1,none⟩=some (.bool false)/\u.cell? ⟨B,19,none⟩=some (.int .i64 m.kd)/\u.cell? ⟨B,20,none⟩=some (.int .i64 m.to)/\u.cell? ⟨B,21,none⟩=some (.int .i64 m.fr)/\u.cell? ⟨B,22,none⟩=some (.int .i64 m.ep)/\u.cell? ⟨B,23,none⟩=some (.int .i64 m.ed)/\u.cell? ⟨B,24,none⟩=some (.string m.km.nm)/\u.cell? ⟨B,25,none⟩=some (.string m.km.tl)/\u.cell? ⟨B,26,none⟩=some (.string m.km.ar)/\u.cell? ⟨B,27,none⟩=some (.slice b2 m.ls.length n2)/\u.cell? ⟨B,28,none⟩=some (.int .i64 m.ct)/\u.cell? ⟨B,29,none⟩=some (.bool m.tn.over)/\u.cell? ⟨B,30,none⟩=some (.int .i64 m.tn.cd)/\u.cell? ⟨B,31,none⟩=some (.string m.tn.tx)/\u.cell? ⟨B,32,none⟩=some (.bool m.tn.has)/\u.cell? ⟨B,33,none⟩=some (.string m.tn.nm)/\u.cell? ⟨B,34,none⟩=some (.int .i64 m.tn.st))) kr_ ?_ fun hHeld=>?_
   · ((try dsimp only);go_keep)
   refine tq 0 hHeld ?_
   try simp only [qq]
   refine tq 1 hHeld ?_
   try simp only [qq]
   refine tq 2 hHeld ?_
   try simp only [qq]
   refine tq 3 hHeld ?_
   try simp only [qq]
   refine tq 4 hHeld ?_
   try simp only [qq]
   refine tq 5 hHeld ?_
   try simp only [qq]
   refine tq 6 hHeld ?_
   try simp only [qq]
   refine uq 7 hHeld ?_
   try simp only [qq]
   refine uq 8 hHeld ?_
   try simp only [qq]
   refine uq 9 hHeld ?_
   try simp only [qq]
   refine uq 10 hHeld ?_
   try simp only [qq]
   refine uq 11 hHeld ?_
   try simp only [qq]
   refine uq 12 hHeld ?_
   try simp only [qq]
   refine uq 13 hHeld ?_
   try simp only [qq]
   refine uq 14 hHeld ?_
   try simp only [qq]
   refine uq 15 hHeld ?_
   try simp only [qq]
   refine uq 16 hHeld ?_
   try simp only [qq]
   refine uq 17 hHeld ?_
   try simp only [qq]
   refine tq 18 hHeld ?_
   try simp only [qq]
   refine wpAnyH_done kr_ ?_ _;clear hHeld;go_wp2;go_ret;exact ⟨.inr ⟨fun h=>Bool.false_ne_true h.1,rfl⟩,(Below.refl _ _).drew⟩
 rw [hup] at a1;go_enter func22,ntmps22
 go_wp2_with fail
 refine wp_region_held_drew (S:=(fun u=>u.cell? ⟨B,0,none⟩=some (.int .i64 x.no)/\u.cell? ⟨B,1,none⟩=some (.bool true)/\u.cell? ⟨B,19,none⟩=some (.int .i64 m.kd)/\u.cell? ⟨B,20,none⟩=some (.int .i64 m.to)/\u.cell? ⟨B,21,none⟩=some (.int .i64 m.fr)/\u.cell? ⟨B,22,none⟩=some (.int .i64 m.ep)/\u.cell? ⟨B,23,none⟩=some (.int .i64 m.ed)/\u.cell? ⟨B,24,none⟩=some (.string m.km.nm)/\u.cell? ⟨B,25,none⟩=some (.string m.km.tl)/\u.cell? ⟨B,26,none⟩=some (.string m.km.ar)/\u.cell? ⟨B,27,none⟩=some (.slice b2 m.ls.length n2)/\u.cell? ⟨B,28,none⟩=some (.int .i64 m.ct)/\u.cell? ⟨B,29,none⟩=some (.bool m.tn.over)/\u.cell? ⟨B,30,none⟩=some (.int .i64 m.tn.cd)/\u.cell? ⟨B,31,none⟩=some (.string m.tn.tx)/\u.cell? ⟨B,32,none⟩=some (.bool m.tn.has)/\u.cell? ⟨B,33,none⟩=some (.string m.tn.nm)/\u.cell? ⟨B,34,none⟩=some (.int .i64 m.tn.st))) kr_ ?_ fun hHeld=>?_
 · ((try dsimp only);go_keep)
 refine tq 0 hHeld ?_
 try simp only [qq]
 refine tq 1 hHeld ?_
 try simp only [qq]
 refine tq 2 hHeld ?_
 try simp only [qq]
 refine tq 3 hHeld ?_
 try simp only [qq]
 refine tq 4 hHeld ?_
 try simp only [qq]
 refine tq 5 hHeld ?_
 try simp only [qq]
 refine tq 6 hHeld ?_
 try simp only [qq]
 refine tq 7 hHeld ?_
 try simp only [qq]
 refine tq 8 hHeld ?_
 try simp only [qq]
 refine tq 9 hHeld ?_
 try simp only [qq]
 refine tq 10 hHeld ?_
 try simp only [qq]
 refine tq 11 hHeld ?_
 try simp only [qq]
 refine tq 12 hHeld ?_
 try simp only [qq]
 refine tq 13 hHeld ?_
 try simp only [qq]
 refine tq 14 hHeld ?_
 try simp only [qq]
 refine tq 15 hHeld ?_
 try simp only [qq]
 refine rq 16 fun K hK=>?_;go_simp;refine (c33 x.no m b2 n2 _ HS.out (lks_below HAT.out ((Below.refl _ _).drew))).mono ?_;rintro e w1 ⟨⟨r,rfl,hr⟩,hb1⟩;have HB1:Hid (Below w.heap.size w w1):=((Below.refl _ _).drew).trans hb1;have HR:Hid (r=true↔OfferTo x.no m):=hr;have d0:=(HB1.out.cell (p:=⟨B,0,none⟩) (by exact hB)).trans a0;have d1:=(HB1.out.cell (p:=⟨B,1,none⟩) (by exact hB)).trans a1;have d19:=(HB1.out.cell (p:=⟨B,19,none⟩) (by exact hB)).trans a19;have d20:=(HB1.out.cell (p:=⟨B,20,none⟩) (by exact hB)).trans a20;have d21:=(HB1.out.cell (p:=⟨B,21,none⟩) (by exact hB)).trans a21;have d22:=(HB1.out.cell (p:=⟨B,22,none⟩) (by exact hB)).trans a22;have d23:=(HB1.out.cell (p:=⟨B,23,none⟩) (by exact hB)).trans a23;have d24:=(HB1.out.cell (p:=⟨B,24,none⟩) (by exact hB)).trans a24;have d25:=(HB1.out.cell (p:=⟨B,25,none⟩) (by exact hB)).trans a25;have d26:=(HB1.out.cell (p:=⟨B,26,none⟩) (by exact hB)).trans a26;have d27:=(HB1.out.cell (p:=⟨B,27,none⟩) (by exact hB)).trans a27;have d28:=(HB1.out.cell (p:=⟨B,28,none⟩) (by exact hB)).trans a28;have d29:=(HB1.out.cell (p:=⟨B,29,none⟩) (by exact hB)).trans a29;have d30:=(HB1.out.cell (p:=⟨B,30,none⟩) (by exact hB)).trans a30;have d31:=(HB1.out.cell (p:=⟨B,31,none⟩) (by exact hB)).trans a31;have d32:=(HB1.out.cell (p:=⟨B,32,none⟩) (by exact hB)).trans a32;have d33:=(HB1.out.cell (p:=⟨B,33,none⟩) (by exact hB)).trans a33;have d34:=(HB1.out.cell (p:=⟨B,34,none⟩) (by exact hB)).trans a34;clear hr hb1
 go_wp2_with fail
 clear hHeld;refine hK.out _ _ ?_ fun hHeld=>?_
 · ((try dsimp only);go_keep)
 clear hK K
 try simp only [qq]
 refine tq 17 hHeld ?_
 try simp only [qq]
 refine tq 18 hHeld ?_
 try simp only [qq]
 refine wpAnyH_done kr_ ?_ _;clear hHeld;cases r
 · go_wp2
   go_ret;exact ⟨.inr ⟨fun h=>Bool.false_ne_true (HR.out.2 h.2),rfl⟩,HB1.out⟩
 go_wp2;go_ret;exact ⟨.inl ⟨HR.out.1 (by first | rfl | trivial),rfl⟩,HB1.out⟩
theorem c52 (x:W19) (m:G16) (B:Nat) (b:Option Addr) (n:Nat) (b2:Option Addr) (n2:Nat) (w:World) (Z:BlkAt w B (lsL x.no x.up x.has x.of b n m b2 n2 (.slice none 0 0))) (f:OpnAt w B):
 Calls prog 52 #[.pointer (some ⟨B,0,none⟩)] w fun e w'=>e=.returned .nilFunc/\But B w w'/\BlkAt w' B (lsL x.no x.up true m b2 n2 m b2 n2 (.slice none 0 0))/\OpnAt w' B:=by
 have a2:=Z 2 _ rfl;have f2:=f 2;have Z1:BlkAt (w.setCell ⟨B,2,none⟩ (.bool true)) B (lsL x.no x.up true x.of b n m b2 n2 (.slice none 0 0)):=Z.set 2 (.bool true) sm_;have f1:OpnAt (w.setCell ⟨B,2,none⟩ (.bool true)) B:=f.set _ _;have hb1:But B w (w.setCell ⟨B,2,none⟩ (.bool true)):=(But.refl _ _).setCell _ _;have c951:=Z1 19 _ rfl;have c954:=Z1 20 _ rfl;have c8:=Z1 21 _ rfl;have c5:=Z1 22 _ rfl;have c920:=Z1 23 _ rfl;have c922:=Z1 24 _ rfl;have c30:=Z1 25 _ rfl;have c31:=Z1 26 _ rfl;have c27:=Z1 27 _ rfl;have c32:=Z1 28 _ rfl;have c33:=Z1 29 _ rfl;have c34:=Z1 30 _ rfl;have c906:=Z1 31 _ rfl;have c907:=Z1 32 _ rfl;have c993:=Z1 33 _ rfl;have cx34:=Z1 34 _ rfl;have hSome:∀ i,i<((lgL m b2 n2):List Value).length->((w.setCell ⟨B,2,none⟩ (.bool true)).cell? ⟨B,3+i,none⟩).isSome=true:=fun i hi=>by
  have hz:3+i<((lsL x.no x.up true x.of b n m b2 n2 (.slice none 0 0)):List Value).length:=by simp at hi ⊢;omega
  rw [Z1 (3+i) _ (List.getElem?_eq_getElem hz)];rfl
 have Z3:BlkAt (fill (w.setCell ⟨B,2,none⟩ (.bool true)) B 3 (lgL m b2 n2)) B (lsL x.no x.up true m b2 n2 m b2 n2 (.slice none 0 0)):=BlkAt.fill (lgL m b2 n2) [.int .i64 x.no,.bool x.up,.bool true] (lgL x.of b n) [.int .i64 m.kd,.int .i64 m.to,.int .i64 m.fr,.int .i64 m.ep,.int .i64 m.ed,.string m.km.nm,.string m.km.tl,.string m.km.ar,.slice b2 m.ls.length n2,.int .i64 m.ct,.bool m.tn.over,.int .i64 m.tn.cd,.string m.tn.tx,.bool m.tn.has,.string m.tn.nm,.int .i64 m.tn.st,.slice none 0 0] 3 Z1 rfl rfl;have f3:OpnAt (fill (w.setCell ⟨B,2,none⟩ (.bool true)) B 3 (lgL m b2 n2)) B:=OpnAt.fill _ _ f1;have hb3:But B w (fill (w.setCell ⟨B,2,none⟩ (.bool true)) B 3 (lgL m b2 n2)):=but_fill _ _ hb1;clear Z f;go_enter func52,ntmps52;have hmark:True:=trivial
 go_wp2_with (refine wpList_store_blk rfl 31 (.tmp 14) (.tmp 11) rfl B 3 rfl (lgL m b2 n2) rfl hSome f1 (by simp [Value.oneCell']) kr_ rfl ?_;revert hmark)
 try intro _
 clear hSome f1 Z1;generalize (fill (w.setCell ⟨B,2,none⟩ (.bool true)) B 3 (lgL m b2 n2))=U at*
 try go_wp2
 go_ret;exact ⟨rfl,hb3,Z3,f3⟩
def TkOn (x:W19) (m:G16):Prop:=x.up=true/\OfferTo x.no m
theorem c21 (x:W19) (m:G16) (B:Nat) (b:Option Addr) (n:Nat) (b2:Option Addr) (n2:Nat) (w:World) (hs:m.le 1048576) (Z:BlkAt w B (lsL x.no x.up x.has x.of b n m b2 n2 (.slice none 0 0))) (f:OpnAt w B) (hB:B<w.heap.size) (hat:LksAt w b2 m.ls):
 Calls prog 21 #[.pointer (some ⟨B,0,none⟩),.func (.func 22) #[.pointer (some ⟨B,0,none⟩)] #[]] w fun e w'=>e=.returned (.tuple #[])/\But B w w'/\OpnAt w' B/\((TkOn x m/\BlkAt w' B (lsL x.no x.up true m b2 n2 m b2 n2 (.slice none 0 0)))\/(¬ TkOn x m/\BlkAt w' B (lsL x.no x.up x.has x.of b n m b2 n2 (.slice none 0 0)))):=by
 have HS:Hid (m.le 1048576):=hs;have HZ:Hid (BlkAt w B (lsL x.no x.up x.has x.of b n m b2 n2 (.slice none 0 0))):=Z;have HF:Hid (OpnAt w B):=f;have HA:Hid (LksAt w b2 m.ls):=hat;have n57:∀ u,(binOp .neq 101 (.func (.func 22) #[.pointer (some ⟨B,0,none⟩)] #[]) .nilFunc).run prog u=.ok (.bool true) u:=fun u=>kr_;have n92:∀ u,(binOp .neq 101 (.func (.func 52) #[.pointer (some ⟨B,0,none⟩)] #[]) .nilFunc).run prog u=.ok (.bool true) u:=fun u=>kr_;have n0:∀ u,(binOp .neq 101 .nilFunc .nilFunc).run prog u=.ok (.bool false) u:=fun u=>kr_;clear hs Z f hat;go_enter func21,ntmps21
 go_wp2_with fail
 go_loopw [4] (fun v wr=>(v=.func (.func 22) #[.pointer (some ⟨B,0,none⟩)] #[]/\Hid (Below w.heap.size w wr))\/(v=.func (.func 52) #[.pointer (some ⟨B,0,none⟩)] #[]/\Hid (Below w.heap.size w wr)/\Hid (TkOn x m))\/(v=.nilFunc/\Hid (But B w wr)/\Hid (OpnAt wr B)/\Hid ((TkOn x m/\BlkAt wr B (lsL x.no x.up true m b2 n2 m b2 n2 (.slice none 0 0)))\/(¬ TkOn x m/\BlkAt wr B (lsL x.no x.up x.has x.of b n m b2 n2 (.slice none 0 0)))))) (fun v _=>match v with | .func (.func 22) _ _=>2 | .func (.func 52) _ _=>1 | _=>0)
 case atStart=>exact .inl ⟨rfl,Below.refl _ _⟩
 case round=>
  rcases hrel with ⟨rfl,hb⟩ | ⟨rfl,hb,ho⟩ | ⟨rfl,hb,hf,hz⟩
  · go_wp2_with fail
    refine (c22 x m B b n b2 n2 wr HS.out (HZ.out.below hb.out hB) (Nat.lt_of_lt_of_le hB hb.out.size) (lks_below HA.out hb.out)).mono ?_;rintro e w1 ⟨⟨h1,h2,rfl⟩ | ⟨h1,rfl⟩,hb1⟩
    · have HB1:Hid (Below w.heap.size w w1):=bT hb.out hb1
      have HO:Hid (TkOn x m):=⟨h1,h2⟩;clear hb1 h1 h2;go_wp2;go_roundw
      case rel=>exact .inr (.inl ⟨rfl,HB1,HO⟩)
      case measure=>simp
    have HB1:Below w.heap.size w w1:=bT hb.out hb1;have HU:Hid (But B w w1):=But.of_below HB1;have HO:Hid (OpnAt w1 B):=HF.out.below HB1 hB;have HR:Hid ((TkOn x m/\BlkAt w1 B (lsL x.no x.up true m b2 n2 m b2 n2 (.slice none 0 0)))\/(¬ TkOn x m/\BlkAt w1 B (lsL x.no x.up x.has x.of b n m b2 n2 (.slice none 0 0)))):=.inr ⟨h1,HZ.out.below HB1 hB⟩;clear hb1 h1 HB1;go_wp2;go_roundw
    case rel=>exact .inr (.inr ⟨rfl,HU,HO,HR⟩)
    case measure=>simp
  · go_wp2_with fail
    refine (c52 x m B b n b2 n2 wr (HZ.out.below hb.out hB) (HF.out.below hb.out hB)).mono ?_;rintro e w1 ⟨rfl,hu,hz,hf⟩;have HU:Hid (But B w w1):=(But.of_below hb.out).trans hu;have HO:Hid (OpnAt w1 B):=hf;have HR:Hid ((TkOn x m/\BlkAt w1 B (lsL x.no x.up true m b2 n2 m b2 n2 (.slice none 0 0)))\/(¬ TkOn x m/\BlkAt w1 B (lsL x.no x.up x.has x.of b n m b2 n2 (.slice none 0 0)))):=.inl ⟨ho.out,hz⟩;clear hu hz hf;go_wp2;go_roundw
    case rel=>exact .inr (.inr ⟨rfl,HU,HO,HR⟩)
    case measure=>simp
  go_wp2;refine bodyPost_end (v:=.tuple #[]) (by simp [results,Tryz.results21,go_sem]) rfl ⟨rfl,hb.out,hf.out,hz.out⟩
theorem c23 (y:W19) (tail:List Value) (B:Nat) (b:Option Addr) (n:Nat) (w:World) (Z:BlkAt w B ((lhL y.no y.up y.has y.of b n)++tail)) (hB:B<w.heap.size) (hl:y.of.ls.length<=1048576) (hat:LksAt w b y.of.ls) (hN:NS b n y.of.ls):
 Calls prog 23 #[.pointer (some ⟨B,0,none⟩)] w fun e w'=>(∃ ao c,e=.returned (.agg ((lhL y.no y.up y.has y.of ao c):List Value).toArray)/\LkOwn w' w.heap.size ao y.of.ls)/\Below w.heap.size w w':=by
 have HA:Hid (LksAt w b y.of.ls):=hat;have ZY:BlkAt (w.alloc (.cells (lkA 0 false false) 33)) B (lhL y.no y.up y.has y.of b n):=fun j v h=>by
  rw [World.cell?_alloc_lt _ _ _ (by exact hB)];exact Z j v (by rw [List.getElem?_append_left (by have:=(List.getElem?_eq_some_iff.1 h).1;exact this)];exact h)
 have hB0:Below w.heap.size w (w.alloc (.cells (lkA 0 false false) 33)):=bA;have ZR:BlkAt (w.alloc (.cells (lkA 0 false false) 33)) w.heap.size (lkL 0 false false):=fun j v h=>by simp [go_sem,h]
 have fR:OpnAt (w.alloc (.cells (lkA 0 false false) 33)) w.heap.size:=fun j=>by simp [go_sem]
 have hz0:(w.alloc (.cells (lkA 0 false false) 33)).heap.size=w.heap.size+1:=sm_;clear hat Z;go_enter func23,ntmps23;have ZL:BlkAt ((w.alloc (.cells (lkA 0 false false) 33)).alloc (.cells (lkA 0 false false) 33)) (w.heap.size+1) (lkL 0 false false):=fun j v h=>by simp [go_sem,h]
 have fL:OpnAt ((w.alloc (.cells (lkA 0 false false) 33)).alloc (.cells (lkA 0 false false) 33)) (w.heap.size+1):=fun j=>by simp [go_sem]
 have hSome:∀ i,i<((lhL y.no y.up y.has y.of b n):List Value).length->(((w.alloc (.cells (lkA 0 false false) 33)).alloc (.cells (lkA 0 false false) 33)).cell? ⟨w.heap.size+1,0+i,none⟩).isSome=true:=fun i hi=>by
  rw [Nat.zero_add];have hz:i<((lkL 0 false false):List Value).length:=hi;rw [ZL i _ (List.getElem?_eq_getElem hz)];rfl
 have hmark:True:=trivial
 go_wp2_with (first | refine wpList_load_blk rfl 33 (.tmp 6) rfl B rfl (lhL y.no y.up y.has y.of b n) _ ZY underlying33 rfl kr_ ?_ | (refine wpList_store_blk rfl 33 (.tmp 3) (.tmp 7) rfl (w.heap.size+1) 0 rfl (lhL y.no y.up y.has y.of b n) rfl hSome fL (by simp [Value.oneCell']) kr_ rfl ?_;revert hmark))
 intro _;have ZRW:BlkAt ((w.alloc (.cells (lkA 0 false false) 33)).alloc (.cells (lkA 0 false false) 33)) w.heap.size (lkL 0 false false):=fun j v h=>by simp [go_sem,h]
 have fRW:OpnAt ((w.alloc (.cells (lkA 0 false false) 33)).alloc (.cells (lkA 0 false false) 33)) w.heap.size:=fun j=>by simp [go_sem]
 have hBW:Below w.heap.size w ((w.alloc (.cells (lkA 0 false false) 33)).alloc (.cells (lkA 0 false false) 33)):=hB0.alloc hB0.size _;have ZF:BlkAt (fill ((w.alloc (.cells (lkA 0 false false) 33)).alloc (.cells (lkA 0 false false) 33)) (w.heap.size+1) 0 (lhL y.no y.up y.has y.of b n)) (w.heap.size+1) (lhL y.no y.up y.has y.of b n):=BlkAt.fill (lhL y.no y.up y.has y.of b n) [] (lkL 0 false false) [] 0 ZL rfl rfl;have fF:OpnAt (fill ((w.alloc (.cells (lkA 0 false false) 33)).alloc (.cells (lkA 0 false false) 33)) (w.heap.size+1) 0 (lhL y.no y.up y.has y.of b n)) (w.heap.size+1):=OpnAt.fill _ _ fL;have ZRF:BlkAt (fill ((w.alloc (.cells (lkA 0 false false) 33)).alloc (.cells (lkA 0 false false) 33)) (w.heap.size+1) 0 (lhL y.no y.up y.has y.of b n)) w.heap.size (lkL 0 false false):=BlkAt.fillO om_ _ _ ZRW;have fRF:OpnAt (fill ((w.alloc (.cells (lkA 0 false false) 33)).alloc (.cells (lkA 0 false false) 33)) (w.heap.size+1) 0 (lhL y.no y.up y.has y.of b n)) w.heap.size:=OpnAt.fill _ _ fRW;have hBF:Below w.heap.size w (fill ((w.alloc (.cells (lkA 0 false false) 33)).alloc (.cells (lkA 0 false false) 33)) (w.heap.size+1) 0 (lhL y.no y.up y.has y.of b n)):=below_fill om_ _ _ hBW;have hzF:(fill ((w.alloc (.cells (lkA 0 false false) 33)).alloc (.cells (lkA 0 false false) 33)) (w.heap.size+1) 0 (lhL y.no y.up y.has y.of b n)).heap.size=w.heap.size+2:=by rw [size_fill];simp
 clear hSome ZL fL ZRW fRW hBW ZR fR hz0 ZY hB0;generalize (fill ((w.alloc (.cells (lkA 0 false false) 33)).alloc (.cells (lkA 0 false false) 33)) (w.heap.size+1) 0 (lhL y.no y.up y.has y.of b n))=U at*;have u11:=ZF 11 _ rfl
 go_wp2_with fail
 refine (c53u b n y.of.ls U hl (lks_below HA.out hBF) hN).mono ?_;rintro e w2 ⟨⟨ao,c,rfl,hlk⟩,hb2⟩;rw [hzF] at hlk;have hB2:Below w.heap.size w w2:=bT hBF hb2;have ZF2:=ZF.below hb2 om_;have fF2:=fF.below hb2 om_;have ZR2:=ZRF.below hb2 om_;have fR2:=fRF.below hb2 om_;have x11:=ZF2 11 _ rfl;have f11:=fF2 11;have ZF3:BlkAt (w2.setCell ⟨w.heap.size+1,11,none⟩ (.slice ao y.of.ls.length c)) (w.heap.size+1) (lhL y.no y.up y.has y.of ao c):=ZF2.set 11 (.slice ao y.of.ls.length c) sm_;have ZR3:BlkAt (w2.setCell ⟨w.heap.size+1,11,none⟩ (.slice ao y.of.ls.length c)) w.heap.size (lkL 0 false false):=ZR2.other _ _ (by show w.heap.size+1≠w.heap.size;omega);have fR3:OpnAt (w2.setCell ⟨w.heap.size+1,11,none⟩ (.slice ao y.of.ls.length c)) w.heap.size:=fR2.set _ _;have hB3:Below w.heap.size w (w2.setCell ⟨w.heap.size+1,11,none⟩ (.slice ao y.of.ls.length c)):=hB2.setCell (p:=⟨w.heap.size+1,11,none⟩) (by show w.heap.size<=w.heap.size+1;omega) _;have HL3:Hid (LkOwn (w2.setCell ⟨w.heap.size+1,11,none⟩ (.slice ao y.of.ls.length c)) (w.heap.size+2) ao y.of.ls):=lkown_set hlk ⟨w.heap.size+1,11,none⟩ _ (by show w.heap.size+1<w.heap.size+2;omega);have hSome:∀ i,i<((lhL y.no y.up y.has y.of ao c):List Value).length->((w2.setCell ⟨w.heap.size+1,11,none⟩ (.slice ao y.of.ls.length c)).cell? ⟨w.heap.size,0+i,none⟩).isSome=true:=fun i hi=>by
  rw [Nat.zero_add];have hz:i<((lkL 0 false false):List Value).length:=hi;rw [ZR3 i _ (List.getElem?_eq_getElem hz)];rfl
 clear ZF fF ZRF fRF u11 hb2 hlk ZF2 fF2 ZR2 fR2 hBF
 go_wp2_with (first | refine wpList_load_blk rfl 33 (.tmp 3) rfl (w.heap.size+1) rfl (lhL y.no y.up y.has y.of ao c) _ ZF3 underlying33 rfl kr_ ?_ | refine wpList_store_blk rfl 33 (.tmp 2) (.tmp 14) rfl w.heap.size 0 rfl (lhL y.no y.up y.has y.of ao c) rfl hSome fR3 (by simp [Value.oneCell']) kr_ rfl ?_)
 have F:BlkAt (fill (w2.setCell ⟨w.heap.size+1,11,none⟩ (.slice ao y.of.ls.length c)) w.heap.size 0 (lhL y.no y.up y.has y.of ao c)) w.heap.size (lhL y.no y.up y.has y.of ao c):=BlkAt.fill (lhL y.no y.up y.has y.of ao c) [] (lkL 0 false false) [] 0 ZR3 rfl rfl;have hBE:Below w.heap.size w (fill (w2.setCell ⟨w.heap.size+1,11,none⟩ (.slice ao y.of.ls.length c)) w.heap.size 0 (lhL y.no y.up y.has y.of ao c)):=below_fill lr_ _ _ hB3;have HLE:Hid (LkOwn (fill (w2.setCell ⟨w.heap.size+1,11,none⟩ (.slice ao y.of.ls.length c)) w.heap.size 0 (lhL y.no y.up y.has y.of ao c)) w.heap.size ao y.of.ls):=(lkown_fill w.heap.size _ om_ 0 HL3.out).mono om_;generalize (fill (w2.setCell ⟨w.heap.size+1,11,none⟩ (.slice ao y.of.ls.length c)) w.heap.size 0 (lhL y.no y.up y.has y.of ao c))=E at*;refine bodyPost_ret (v:=.agg ((lhL y.no y.up y.has y.of ao c):List Value).toArray) (results_blk (P:=prog) (ty:=33) rfl _ E w.heap.size (lhL y.no y.up y.has y.of ao c) _ rfl F underlying33 rfl kr_) rfl ⟨⟨ao,c,rfl,HLE.out⟩,hBE⟩
end Go.Proofs.YthjhakdpikdoeaaGreatDoor.M
