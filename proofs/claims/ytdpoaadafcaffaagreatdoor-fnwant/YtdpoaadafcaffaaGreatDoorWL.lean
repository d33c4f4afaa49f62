import Derived.Test.YtdpoaadafcaffaaGreatDoorWJ
import Derived.Test.YtdpoaadafcaffaaGreatDoorZ26
set_option linter.unusedVariables false
set_option maxHeartbeats 8000000
set_option maxRecDepth 100000
namespace Go.Proofs.YtdpoaadafcaffaaGreatDoor
open Proofs.Tryz
open Go.RowKit
def Tj:List Value:=[.string ⟨#[97]⟩,.string ⟨#[98]⟩,.string ⟨#[99]⟩,.string ⟨#[97]⟩,.string ⟨#[120,52]⟩,.string ⟨#[99]⟩,.string ⟨#[120,48]⟩,.string ⟨#[120,49]⟩,.string ⟨#[120,50]⟩,.string ⟨#[120,51]⟩,.string ⟨#[103,111,110,101]⟩,.string ⟨#[112,108,97,110]⟩]
theorem sJ (q P:Nat) (w:World) (hp:P<=90000) (hr:o8 w q P):
 Calls prog 100 #[.pointer (some ⟨q,0,none⟩)] w fun e w'=>(∃ x:ByteArray,e=.returned (.string x)/\x.size<=20)/\o8 w' q (P+2)/\But q w w':=by
 have HR:=J5 hr;have hq:=hr.lt;clear hr;go_enter func100,ntmps100
 go_wp2_with fail
 obtain ⟨y0,hy⟩:∃ y:World,y=w.alloc (.cells Tj.toArray 9):=⟨_,rfl⟩;change Code.wp _ _ _ _ (w.alloc (.cells Tj.toArray 9));rw [<- hy];have b0:Below w.heap.size w y0:=by rw [hy];exact bA
 have C0:Hid (Cl y0 w.heap.size 9 Tj):=by show Cl _ _ _ _;rw [hy];exact F3 w _ 9
 clear hy;refine wp_region_held_drew (S:=fun u=>Cl u w.heap.size 9 Tj) I1 C0.out fun hH=>?_;obtain ⟨y1,hy⟩:∃ y:World,y=y0.drew:=⟨_,rfl⟩;rw [<- hy] at hH ⊢;have b1:Below w.heap.size w y1:=by rw [hy];exact b0.drew
 clear hy b0 C0;refine tq 0 hH ?_;refine tq 1 hH ?_;refine tq 6 hH ?_;refine tq 7 hH ?_
 try simp only [qq]
 refine rq 2 fun K hK=>?_;go_simp;refine (K6 y1 q P 12 O0 O0 O0 (HR.out.later b1)).mono ?_;rintro e y2 ⟨⟨r1,rfl,lV,r11⟩,H2,ho⟩;have H2:=J5 H2;have B2:=Q0 ((But.of_below b1).trans ho.but);have C2:Cl y2 w.heap.size 9 Tj:=(ho.block _ O0).trans hH;clear ho hH;go_simp;refine hK.out _ _ C2 fun hH=>?_;clear hK K
 try simp only [qq]
 obtain ⟨z1,hz1,hs1⟩:=yf Tj 4 J3 lV r11;refine tq 3 hH ?_
 try simp only [qq]
 refine tq 4 hH ?_ (v:=?_) (hv:=?e)
 case e=>intro wq hSw;have d:=(hSw.cell r1.toNat).trans hz1;go_simp;try with_reducible rfl
 have hn1:¬9223372036854775807<z1.size+1:=O0
 try simp only [qq]
 refine tq 5 hH ?_
 try simp only [qq]
 refine rq 8 fun K hK=>?_;go_simp;refine (K6 y2 q (P+1) 12 O0 O0 O0 H2.out).mono ?_;rintro e y3 ⟨⟨r2,rfl,BR,rV⟩,H3,ho⟩;have H3:=J5 H3;have B3:=J5 (B2.out.trans ho.but);have C3:Cl y3 w.heap.size 9 Tj:=(ho.block _ O0).trans hH;clear ho hH;go_simp;refine hK.out _ _ C3 fun hH=>?_;clear hK K
 try simp only [qq]
 obtain ⟨z2,hz2,hs2⟩:=yf Tj 4 J3 BR rV;generalize hZ:(z1++⟨#[10]⟩:ByteArray)=Z;have hZs:Z.size<=5:=by rw [<- hZ,ByteArray.size_append];have:ByteArray.size ⟨#[10]⟩=1:=rfl;omega
 clear hZ;refine tq 9 hH ?_
 try simp only [qq]
 refine tq 10 hH ?_ (v:=?_) (hv:=?e)
 case e=>intro wq hSw;have d:=(hSw.cell r2.toNat).trans hz2;go_simp;try with_reducible rfl
 have hn2:¬9223372036854775807<Z.size+z2.size:=O0
 try simp only [qq]
 refine tq 11 hH ?_;refine tq 12 hH ?_
 try simp only [qq]
 refine wpAnyH_done I1 ?_ _;go_wp2;go_ret;exact ⟨⟨_,rfl,by rw [ByteArray.size_append];omega⟩,H3.out,B3.out⟩
def aI (v:Value):Bool:=match v with | .int .i64 z=>decide (0<=z/\z<100) | _=>false
theorem nC (l:List Value) (h:l.all aI=true) {r:Int} (h0:0<=r) (h1:r<(l.length:Int)):∃ z:Nat,l[r.toNat]?=some (.int .i64 (z:Int))/\z<100:=by
 have hl:r.toNat<l.length:=O0;have hm:=List.all_eq_true.1 h _ (List.getElem_mem hl);unfold aI at hm;split at hm
 · rename_i z hz
   have hm:0<=z/\z<100:=by simpa using hm
   exact ⟨z.toNat,by rw [List.getElem?_eq_getElem hl,hz,Int.toNat_of_nonneg hm.1],O0⟩
 cases hm
def Jy:List Value:=[.int .i64 0,.int .i64 1,.int .i64 1,.int .i64 2,.int .i64 2,.int .i64 3,.int .i64 3,.int .i64 4,.int .i64 5]
def Iw:List Value:=[.string ⟨#[97]⟩,.string ⟨#[119]⟩,.string ⟨#[112,108,97,110]⟩,.string ⟨#[103,111,110,101]⟩,.string ⟨#[116,48]⟩,.string ⟨#[]⟩,.string ⟨#[120,32,121]⟩]
theorem c15 (q P:Nat) (w:World) (hp:P<=90000) (hr:o8 w q P):
 Calls prog 15 #[.pointer (some ⟨q,0,none⟩)] w fun e w'=>(∃ x:ByteArray,e=.returned (.string x)/\x.size<=20)/\o8 w' q (P+2)/\But q w w':=by
 have HR:=J5 hr;clear hr;go_enter func15,ntmps15
 go_wp2_with fail
 refine (K6 w q P 5 O0 O0 O0 HR.out).mono ?_;rintro e w1 ⟨⟨r,rfl,r0,r1⟩,H1,ho⟩;have H1:=J5 H1;have B1:=J5 ho.but;have hq:=H1.out.lt;clear ho HR;have la:∀ (l:List Value) (t:TypeId),o8 (w1.alloc (.cells l.toArray t)) q (P+1)/\But q w (w1.alloc (.cells l.toArray t)):=fun l t=>⟨H1.out.later bA,B1.out.later bA⟩;by_cases h:0<r
 · go_wp2_with fail
   refine (K6 (w1.alloc (.cells Jy.toArray 3)) q (P+1) 9 O0 O0 O0 (la Jy 3).1).mono ?_;rintro e w2 ⟨⟨r2,rfl,BR,rV⟩,H2,ho⟩;have H2:=J5 H2;have B2:=J5 ((la Jy 3).2.trans ho.but);have C2:Cl w2 w1.heap.size 3 Jy:=(ho.block _ O0).trans (F3 w1 Jy 3);obtain ⟨m,hm,hml⟩:=nC Jy J3 BR rV;have d:=(C2.cell r2.toNat).trans hm;have hdl:(K3 (Lib.decDigits m)).size<=2:=by rw [Y2];exact Da m hml
   clear ho hm C2
   go_wp2_with fail
   refine (Np m w2 hml).mono ?_;rintro e w3 ⟨rfl,hb3⟩;go_wp2;go_ret;exact ⟨⟨_,rfl,by rw [ByteArray.size_append];have e1:ByteArray.size ⟨#[120]⟩=1:=rfl;omega⟩,H2.out.later hb3,B2.out.later hb3⟩
 obtain rfl:r=0:=O0
 go_wp2_with fail
 refine (K6 (w1.alloc (.cells Iw.toArray 9)) q (P+1) 7 O0 O0 O0 (la Iw 9).1).mono ?_;rintro e w2 ⟨⟨r2,rfl,BR,rV⟩,H2,ho⟩;have H2:=J5 H2;have B2:=J5 ((la Iw 9).2.trans ho.but);have C2:Cl w2 w1.heap.size 9 Iw:=(ho.block _ O0).trans (F3 w1 Iw 9);obtain ⟨z,hz,hzs⟩:=yf Iw 4 J3 BR rV;have d:=(C2.cell r2.toNat).trans hz;clear ho hz C2;go_wp2;go_ret;exact ⟨⟨_,rfl,O0⟩,H2.out,B2.out⟩
theorem iF:Inf prog 35 3:=Jf I1
structure Mk (q P:Nat) (w:World) (v:Value) (ms:List M3) (u:World):Prop where
 rd:o8 u q P
 bu:But q w u
 qw:q<w.heap.size
 row:u.ownsRow w.heap.size 35 3 v ms.length (G.F5 ms)
 sm:∀ x∈ms,x.le 4000
structure Mm (q P:Nat) (w:World) (v:Value) (ms:List M3) (M:Nat) (x:M3) (u:World):Prop where
 k:Mk q P w v ms u
 hM:Cl u M 35 [.string x.nm,.string x.tl,.string x.ar]
 hw:w.heap.size<=M
 lt:∀ k,v.ownBlock=some k->k<M
 le:x.le 4000
variable {q P P' M:Nat} {w u u':World} {v:Value} {ms:List M3} {x:M3}
theorem Mk.call (h:Mk q P w v ms u) (hr:o8 u' q P') (hb:But q u u'):Mk q P' w v ms u':=⟨hr,h.bu.trans hb,h.qw,Ph h.row hb h.qw,h.sm⟩
theorem Mk.later (h:Mk q P w v ms u) (hb:Below u.heap.size u u'):Mk q P w v ms u':=h.call (h.rd.later hb) (But.of_below hb)
theorem Mm.call (h:Mm q P w v ms M x u) (hr:o8 u' q P') (hb:But q u u'):Mm q P' w v ms M x u':=by
 have:=h.k.qw;have:=h.hw;exact ⟨h.k.call hr hb,(hb.block _ h.hM.lt O0).trans h.hM,h.hw,h.lt,h.le⟩
theorem Mm.later (h:Mm q P w v ms M x u) (hb:Below u.heap.size u u'):Mm q P w v ms M x u':=h.call (h.k.rd.later hb) (But.of_below hb)
theorem Mm.on (h:Mm q P w v ms M x u) (j:Nat) (y:Value):Mk q P w v ms (u.setCell ⟨M,j,none⟩ y):=by
 have:=h.k.qw;have:=h.hw;exact ⟨K8 h.k.rd O0 _ _,K7 h.k.bu h.hw _ _,h.k.qw,Qj h.k.row (fun e=>by have:=h.lt M e;omega),h.k.sm⟩
theorem Mm.ar (h:Mm q P w v ms M x u) {s:ByteArray} (hs:s.size<=4000):Mm q P w v ms M ⟨x.nm,x.tl,s⟩ (u.setCell ⟨M,2,none⟩ (.string s)):=⟨h.on 2 _,h.hM.set 2 _,h.hw,h.lt,h.le.1,h.le.2.1,hs⟩
theorem Mm.tl (h:Mm q P w v ms M x u) {s:ByteArray} (hs:s.size<=4000):Mm q P w v ms M ⟨x.nm,s,x.ar⟩ (u.setCell ⟨M,1,none⟩ (.string s)):=⟨h.on 1 _,h.hM.set 1 _,h.hw,h.lt,h.le.1,hs,h.le.2.2⟩
theorem Mk.new (h:Mk q P w v ms u) (hx:x.le 4000):Mm q P w v ms u.heap.size x (u.alloc (.cells #[.string x.nm,.string x.tl,.string x.ar] 35)):=
 ⟨h.later bA,F3 u [_,_,_] 35,h.bu.size,fun k e=>(h.row.lt k e).2,hx⟩
theorem Mm.Sn (h:Mm q P w v ms M x u) (hp:P<=P'):Mm q P' w v ms M x u:=h.call (h.k.rd.mono hp) (But.refl _ _)
theorem Mk.app {v':Value} (h:Mk q P w v ms u) (hr:u'.ownsRow w.heap.size 35 3 v' (ms.length+1) (G.F5 ms++[.string x.nm,.string x.tl,.string x.ar])) (hg:u.grownBy u' v.ownBlock) (hx:x.le 4000):Mk q P w v' (ms++[x]) u':=by
 have hb:=Vf (Below.refl w.heap.size u) hg h.bu.size (fun k e=>(h.row.lt k e).1);refine ⟨h.rd.Q9 hb h.qw,h.bu.Q9 hb Q8,h.qw,?_,fun y hy=>?_⟩
 · rw [List.length_append,G.Ef];exact hr
 rcases List.mem_append.1 hy with hy | hy
 · exact h.sm y hy
 rw [List.mem_singleton.1 hy];exact hx
theorem dK (q P:Nat) (w:World) (hp:P<=80000) (hr:o8 w q P):
 Calls prog 62 #[.pointer (some ⟨q,0,none⟩)] w fun e w'=>(∃ v ms,e=.returned v/\Mk q (P+80) w v ms w'/\ms.length<=6):=by
 have HR:=J5 hr;have hq:=hr.lt;clear hr;go_enter func62,ntmps62
 go_wp2_with fail
 obtain ⟨w0,hw0⟩:∃ y:World,y=w.alloc (.cells #[] 35):=⟨_,rfl⟩;rw [<- hw0];have H0:Hid (Mk q P w (.slice (some ⟨w.heap.size,0,none⟩) 0 0) [] w0):=by
  have hb:Below w.heap.size w w0:=by rw [hw0];exact bA
  exact ⟨HR.out.later hb,But.of_below hb,hq,by rw [hw0];exact row0 w 35 3 Q8,fun x h=>nomatch h⟩
 clear hw0 HR;refine (K6 w0 q P 5 O0 O0 O0 H0.out.rd).mono ?_;rintro e w1 ⟨⟨r0,rfl,r00,r01⟩,h1,ho⟩;have H1:=J5 (H0.out.call h1 ho.but);clear H0 h1 ho;obtain ⟨L,rfl⟩:=Int.eq_ofNat_of_zero_le r00
 go_wp2_with fail
 go_loopw [3,5] (fun v i wr=>∃ (k:Nat) (ms:List M3),i=.int .i64 k/\k<=2+L/\ms.length=k/\Hid (Mk q (P+1+13*k) w v ms wr)) (fun _ i _=>2+L - (intOf i).toNat)
 case atStart=>exact ⟨0,[],rfl,O0,rfl,H1⟩
 clear H1;obtain ⟨k,ms,rfl,hk,hml,H⟩:=hrel;by_cases hlt:k<2+L;rotate_left
 · obtain rfl:k=2+L:=O0
   go_wp2;go_ret;exact ⟨_,ms,rfl,H.out.call (H.out.rd.mono O0) (But.refl _ _),O0⟩
 have hk9:k<100:=O0;have hdl:(K3 (Lib.decDigits k)).size<=2:=by rw [Y2];exact Da k hk9
 go_wp2_with fail
 refine (Np k wr hk9).mono ?_;rintro e y1 ⟨rfl,hb⟩;have H1:=J5 (H.out.later hb);clear H hb
 go_wp2_with fail
 refine (K6 y1 q (P+1+13*k) 4 O0 O0 O0 H1.out.rd).mono ?_;rintro e y2 ⟨⟨r,rfl,h0,h1⟩,hr,ho⟩;have H2:=J5 (H1.out.call hr ho.but);clear H1 hr ho;obtain ⟨m,rfl⟩:=Int.eq_ofNat_of_zero_le h0;have hm9:m<100:=O0;have hdm:(K3 (Lib.decDigits m)).size<=2:=by rw [Y2];exact Da m hm9
 go_wp2_with fail
 refine (Np m y2 hm9).mono ?_;rintro e y3 ⟨rfl,hb⟩;have H3:=J5 (H2.out.later hb);clear H2 hb
 go_wp2_with fail
 refine (sJ q (P+1+13*k+1) y3 O0 H3.out.rd).mono ?_;rintro e y4 ⟨⟨ar,rfl,har⟩,hr,hb⟩;have H4:=J5 (H3.out.call hr hb);clear H3 hr hb;obtain ⟨nm,hnm,hns⟩:∃ s:ByteArray,s=⟨#[120]⟩++K3 (Lib.decDigits k)/\s.size<=4000:=⟨_,rfl,by rw [ByteArray.size_append];have e1:ByteArray.size ⟨#[120]⟩=1:=rfl;omega⟩;obtain ⟨tl,htl,hts⟩:∃ s:ByteArray,s=⟨#[116]⟩++K3 (Lib.decDigits m)/\s.size<=4000:=⟨_,rfl,by rw [ByteArray.size_append];have e1:ByteArray.size ⟨#[116]⟩=1:=rfl;omega⟩;rw [<- hnm,<- htl];clear hnm htl hdl hdm;obtain ⟨y5,hy5⟩:∃ y:World,y=y4.alloc (.cells #[.string nm,.string tl,.string ar] 35):=⟨_,rfl⟩;have H5:Hid (Mm q (P+1+13*k+3) w u3 ms y4.heap.size ⟨nm,tl,ar⟩ y5):=by
  show Mm _ _ _ _ _ _ _ _;rw [hy5];exact H4.out.new (x:=⟨nm,tl,ar⟩) ⟨hns,hts,by show ar.size<=4000;omega⟩
 go_wp2_with fail
 rw [<- hy5];clear hy5 H4;generalize y4.heap.size=M at*;refine (K6 y5 q (P+1+13*k+3) 3 O0 O0 O0 H5.out.k.rd).mono ?_;rintro e y6 ⟨⟨r,rfl,h0,h1⟩,hr,ho⟩;have H6:=J5 (H5.out.call hr ho.but);clear H5 hr ho;have mark:=trivial;rcases Classical.em (r=0) with hr0 | hr0
 case' inl=>
   subst hr0
   go_wp2_with fail
   refine (K6 y6 q (P+1+13*k+4) 3 O0 O0 O0 H6.out.k.rd).mono ?_;rintro e y7 ⟨⟨r2,rfl,h20,h21⟩,hr,ho⟩;have H7:=J5 (H6.out.call hr ho.but);clear H6 hr ho;have d2:=H7.out.hM.cell 2;have f2:=H7.out.hM.opn 2;dsimp only [List.getElem?_cons_zero,List.getElem?_cons_succ] at d2;obtain rfl | rfl | rfl:r2=0\/r2=1\/r2=2:=O0
   go_wp2_with fail
   have H8:=J5 ((H7.out.ar (s:=((⟨#[97,98,99]⟩:ByteArray).extract 0 3).extract 0 1) J3).Sn (P':=P+1+13*k+9) O0);clear H7 d2 f2;generalize (y7.setCell ⟨M,2,none⟩ _)=y8 at H8 ⊢;generalize (⟨nm,tl,_⟩:M3)=x8 at H8;revert mark;rotate_left
   go_wp2_with fail
   have H8:=J5 ((H7.out.ar (s:=((⟨#[97,98,99]⟩:ByteArray).extract 1 3).extract 0 1) J3).Sn (P':=P+1+13*k+9) O0);clear H7 d2 f2;generalize (y7.setCell ⟨M,2,none⟩ _)=y8 at H8 ⊢;generalize (⟨nm,tl,_⟩:M3)=x8 at H8;revert mark;rotate_left
   go_wp2_with fail
   have H8:=J5 ((H7.out.ar (s:=((⟨#[97,98,99]⟩:ByteArray).extract 2 3).extract 0 1) J3).Sn (P':=P+1+13*k+9) O0);clear H7 d2 f2;generalize (y7.setCell ⟨M,2,none⟩ _)=y8 at H8 ⊢;generalize (⟨nm,tl,_⟩:M3)=x8 at H8;revert mark
 case' inr=>
   have hrb:(r==0)=false:=by simpa using hr0
   go_wp2_with fail
   refine (K6 y6 q (P+1+13*k+4) 2 O0 O0 O0 H6.out.k.rd).mono ?_;rintro e y7 ⟨⟨r2,rfl,h20,h21⟩,hr,ho⟩;have H7:=J5 (H6.out.call hr ho.but);clear H6 hr ho;rcases Classical.em (r2=0/\0<k) with hc | hc
   case' inr=>
    have hb2:(r2==0)=false\/((r2==0)=true/\decide (0<k)=false):=by
     rcases Classical.em (r2=0) with h | h
     · exact .inr ⟨by simpa using h,decide_eq_false (fun h2=>hc ⟨h,O0⟩)⟩
     exact .inl (by simpa using h)
    have H8:=J5 (H7.out.Sn (P':=P+1+13*k+9) O0);clear H7 hc;generalize hx8:(⟨nm,tl,ar⟩:M3)=x8 at H8;clear hx8;generalize y7=y8 at*;rcases hb2 with hb2 | ⟨hb2,hb3⟩
    all_goals go_wp2_with fail
    all_goals revert mark
   case' inl=>
    obtain ⟨rfl,hkp⟩:=hc
    go_wp2_with fail
    refine (K6 y7 q (P+1+13*k+5) k O0 O0 O0 H7.out.k.rd).mono ?_;rintro e a1 ⟨⟨s1,rfl,s10,s11⟩,hr,ho⟩;have G1:=J5 (H7.out.call hr ho.but);clear H7 hr ho;obtain ⟨m1,rfl⟩:=Int.eq_ofNat_of_zero_le s10;have hm1:m1<100:=O0;have hd1:(K3 (Lib.decDigits m1)).size<=2:=by rw [Y2];exact Da m1 hm1
    go_wp2_with fail
    refine (Np m1 a1 hm1).mono ?_;rintro e a2 ⟨rfl,hb⟩;have G2:=J5 (G1.out.later hb);clear G1 hb
    go_wp2_with fail
    refine (K6 a2 q (P+1+13*k+6) k O0 O0 O0 G2.out.k.rd).mono ?_;rintro e a3 ⟨⟨s2,rfl,s20,s21⟩,hr,ho⟩;have G3:=J5 (G2.out.call hr ho.but);clear G2 hr ho;obtain ⟨m2,rfl⟩:=Int.eq_ofNat_of_zero_le s20;have hm2:m2<100:=O0;have hd2:(K3 (Lib.decDigits m2)).size<=2:=by rw [Y2];exact Da m2 hm2
    go_wp2_with fail
    refine (Np m2 a3 hm2).mono ?_;rintro e a4 ⟨rfl,hb⟩;have G4:=J5 (G3.out.later hb);clear G3 hb;have hls:([.string ⟨#[]⟩,.string (⟨#[10,120]⟩++K3 (Lib.decDigits m2)),.string ⟨#[10,97]⟩]:List Value).all (Fp 4)=true:=by
     simp [Fp,ByteArray.size_append];exact ⟨J3,by have:ByteArray.size ⟨#[10,120]⟩=2:=rfl;omega,J3⟩
    obtain ⟨a5,zU⟩:∃ y:World,y=a4.alloc (.cells #[.string ⟨#[]⟩,.string (⟨#[10,120]⟩++K3 (Lib.decDigits m2)),.string ⟨#[10,97]⟩] 9):=⟨_,rfl⟩;have b5:Below a4.heap.size a4 a5:=by rw [zU];exact bA
    have C5:Hid (Cl a5 a4.heap.size 9 [.string ⟨#[]⟩,.string (⟨#[10,120]⟩++K3 (Lib.decDigits m2)),.string ⟨#[10,97]⟩]):=by show Cl _ _ _ _;rw [zU];exact F3 a4 _ 9
    have G5:=J5 (G4.out.later b5);have hqa:=G4.out.k.rd.lt
    go_wp2_with fail
    rw [<- zU];clear zU b5 G4;refine (K6 a5 q (P+1+13*k+7) 3 O0 O0 O0 G5.out.k.rd).mono ?_;rintro e a6 ⟨⟨s3,rfl,s30,s31⟩,hr,ho⟩;have G6:=J5 (G5.out.call hr ho.but);have C6:Cl a6 a4.heap.size 9 [.string ⟨#[]⟩,.string (⟨#[10,120]⟩++K3 (Lib.decDigits m2)),.string ⟨#[10,97]⟩]:=(ho.block _ O0).trans C5.out;clear G5 hr ho C5;obtain ⟨z,hz,hzs⟩:=yf _ 4 hls s30 (by simpa using s31);have dz:=(C6.cell s3.toNat).trans hz;have d2:=G6.out.hM.cell 2;have f2:=G6.out.hM.opn 2;dsimp only [List.getElem?_cons_zero,List.getElem?_cons_succ] at d2;obtain ⟨X1,hX1,hXs⟩:∃ s:ByteArray,s=⟨#[120]⟩++K3 (Lib.decDigits m1)/\s.size<=3:=⟨_,rfl,by rw [ByteArray.size_append];have e1:ByteArray.size ⟨#[120]⟩=1:=rfl;omega⟩;rw [<- hX1];clear hX1 hls hz C6
    go_wp2_with fail
    have H8:=J5 ((G6.out.ar (s:=X1++z) (by rw [ByteArray.size_append];omega)).Sn (P':=P+1+13*k+9) O0);clear G6 d2 f2 dz;generalize (a6.setCell ⟨M,2,none⟩ _)=y8 at H8 ⊢;generalize (⟨nm,tl,_⟩:M3)=x8 at H8;revert mark
 all_goals
  intro _;refine (K6 y8 q (P+1+13*k+9) 16 O0 O0 O0 H8.out.k.rd).mono ?_;rintro e y9 ⟨⟨r9,rfl,h90,h91⟩,hr,ho⟩;have H9:=J5 (H8.out.call hr ho.but);clear H8 hr ho;have a3N:=trivial;rcases Classical.em (r9=0) with hr9 | hr9
  case' inl=>
    subst hr9;obtain ⟨a5,zU⟩:∃ y:World,y=y9.alloc (.cells #[.string ⟨#[120,48]⟩,.string ⟨#[120,53]⟩,.string ⟨#[110,111,110,101]⟩,.string ⟨#[97]⟩] 9):=⟨_,rfl⟩;have b5:Below y9.heap.size y9 a5:=by rw [zU];exact bA
    have C5:Hid (Cl a5 y9.heap.size 9 [.string ⟨#[120,48]⟩,.string ⟨#[120,53]⟩,.string ⟨#[110,111,110,101]⟩,.string ⟨#[97]⟩]):=by show Cl _ _ _ _;rw [zU];exact F3 y9 _ 9
    have G5:=J5 (H9.out.later b5);have hqa:=H9.out.k.rd.lt
    go_wp2_with fail
    rw [<- zU];clear zU b5 H9;refine (K6 a5 q (P+1+13*k+10) 4 O0 O0 O0 G5.out.k.rd).mono ?_;rintro e a6 ⟨⟨s3,rfl,s30,s31⟩,hr,ho⟩;have G6:=J5 (G5.out.call hr ho.but);have C6:Cl a6 y9.heap.size 9 [.string ⟨#[120,48]⟩,.string ⟨#[120,53]⟩,.string ⟨#[110,111,110,101]⟩,.string ⟨#[97]⟩]:=(ho.block _ O0).trans C5.out;clear G5 hr ho C5;obtain ⟨z,hz,hzs⟩:=yf [.string ⟨#[120,48]⟩,.string ⟨#[120,53]⟩,.string ⟨#[110,111,110,101]⟩,.string ⟨#[97]⟩] 4 J3 s30 (by simpa using s31);have dz:=(C6.cell s3.toNat).trans hz;have d1:=G6.out.hM.cell 1;have f1:=G6.out.hM.opn 1;dsimp only [List.getElem?_cons_zero,List.getElem?_cons_succ] at d1;have KS:=J5 ((G6.out.tl (s:=z) O0).Sn (P':=P+1+13*k+11) O0);clear hz C6;generalize hx9:(⟨x8.nm,z,x8.ar⟩:M3)=x9 at KS;clear hx9;obtain ⟨sV,ZO⟩:∃ y:World,y=a6.setCell ⟨M,1,none⟩ (.string z):=⟨_,rfl⟩;rw [<- ZO] at KS;have e10:sV.heap.size=a6.heap.size:=by rw [ZO];simp
  case' inr=>
    have hrb:(r9==0)=false:=by simpa using hr9
    have KS:=J5 (H9.out.Sn (P':=P+1+13*k+11) O0);obtain ⟨sV,ZO⟩:∃ y:World,y=y9:=⟨_,rfl⟩;rw [<- ZO] at KS;have e10:sV.heap.size=y9.heap.size:=by rw [ZO]
    generalize hx9:x8=x9 at KS;clear hx9 H9
  all_goals
   have dm0:=KS.out.hM.cell 0;have dm1:=KS.out.hM.cell 1;have dm2:=KS.out.hM.cell 2;rw [ZO] at dm0 dm1 dm2;dsimp only [List.getElem?_cons_zero,List.getElem?_cons_succ] at dm0 dm1 dm2;obtain ⟨Y,hY⟩:∃ y:World,y=sV.alloc (.cells #[.string x9.nm,.string x9.tl,.string x9.ar] 35):=⟨_,rfl⟩;have bY:Below sV.heap.size sV Y:=by rw [hY];exact bA
   have CY:Hid (Cl Y sV.heap.size 35 [.string x9.nm,.string x9.tl,.string x9.ar]):=by show Cl _ _ _ _;rw [hY];exact F3 sV [_,_,_] 35
   have HY:=J5 (KS.out.k.later bY);have hle:=J5 KS.out.le;rw [e10] at CY;rw [ZO] at hY;have E10:=J5 e10;clear e10 ZO bY KS
   go_wp2_with (at_builtin;rw [<- hY];refine Kc rfl _ _ 84 rfl w.heap.size 35 3 underlying84 iF J3 _ ms.length _ rfl HY.out.row _ 1 [.string x9.nm,.string x9.tl,.string x9.ar] rfl (.inr ⟨⟨_,0,none⟩,1,rfl,rfl,r_ CY.out⟩) (by simp [Value.oneCell']) O0 HY.out.bu.size ?_;intro v' y11 O2 g2 hn2;have HN:=J5 (HY.out.app (x:=x9) O2 g2 hle.out);clear O2 g2 hn2)
   go_roundw
   case rel=>exact ⟨k+1,ms++[x9],by go_num,O0,by simp [hml],HN.out.call (HN.out.rd.mono O0) (But.refl _ _)⟩
   case measure=>simp [intOf];omega
end Go.Proofs.YtdpoaadafcaffaaGreatDoor
