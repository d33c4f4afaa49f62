import Derived.Test.YthjhakdpikdoeaaGreatDoorWK
set_option linter.unusedVariables false
set_option maxHeartbeats 8000000
set_option maxRecDepth 100000
namespace Go.Proofs.YthjhakdpikdoeaaGreatDoor
open Proofs.Tryz
open Go.RowKit
theorem inf24:Inf prog 24 3:=inf_of kr_
structure Mk (q P:Nat) (w:World) (v:Value) (ms:List M3) (u:World):Prop where
 rd:RdTo u q P
 bu:But q w u
 qw:q<w.heap.size
 row:u.ownsRow w.heap.size 24 3 v ms.length (G.mkCells ms)
 sm:∀ x∈ms,x.le 4000
structure Mm (q P:Nat) (w:World) (v:Value) (ms:List M3) (M:Nat) (x:M3) (u:World):Prop where
 k:Mk q P w v ms u
 hM:Cl u M 24 [.string x.nm,.string x.tl,.string x.ar]
 hw:w.heap.size<=M
 lt:∀ k,v.ownBlock=some k->k<M
 le:x.le 4000
variable {q P P' M:Nat} {w u u':World} {v:Value} {ms:List M3} {x:M3}
theorem Mk.call (h:Mk q P w v ms u) (hr:RdTo u' q P') (hb:But q u u'):Mk q P' w v ms u':=⟨hr,h.bu.trans hb,h.qw,own_but h.row hb h.qw,h.sm⟩
theorem Mk.later (h:Mk q P w v ms u) (hb:Below u.heap.size u u'):Mk q P w v ms u':=h.call (h.rd.later hb) (But.of_below hb)
theorem Mm.call (h:Mm q P w v ms M x u) (hr:RdTo u' q P') (hb:But q u u'):Mm q P' w v ms M x u':=by
 have:=h.k.qw;have:=h.hw;exact ⟨h.k.call hr hb,(hb.block _ h.hM.lt om_).trans h.hM,h.hw,h.lt,h.le⟩
theorem Mm.later (h:Mm q P w v ms M x u) (hb:Below u.heap.size u u'):Mm q P w v ms M x u':=h.call (h.k.rd.later hb) (But.of_below hb)
theorem Mm.on (h:Mm q P w v ms M x u) (j:Nat) (y:Value):Mk q P w v ms (u.setCell ⟨M,j,none⟩ y):=by
 have:=h.k.qw;have:=h.hw;exact ⟨rd_set1 h.k.rd om_ _ _,but_set1 h.k.bu h.hw _ _,h.k.qw,own_setNe h.k.row (fun e=>by have:=h.lt M e;omega),h.k.sm⟩
theorem Mm.ar (h:Mm q P w v ms M x u) {s:ByteArray} (hs:s.size<=4000):Mm q P w v ms M ⟨x.nm,x.tl,s⟩ (u.setCell ⟨M,2,none⟩ (.string s)):=⟨h.on 2 _,h.hM.set 2 _,h.hw,h.lt,h.le.1,h.le.2.1,hs⟩
theorem Mm.tl (h:Mm q P w v ms M x u) {s:ByteArray} (hs:s.size<=4000):Mm q P w v ms M ⟨x.nm,s,x.ar⟩ (u.setCell ⟨M,1,none⟩ (.string s)):=⟨h.on 1 _,h.hM.set 1 _,h.hw,h.lt,h.le.1,hs,h.le.2.2⟩
theorem Mk.new (h:Mk q P w v ms u) (hx:x.le 4000):Mm q P w v ms u.heap.size x (u.alloc (.cells #[.string x.nm,.string x.tl,.string x.ar] 24)):=
 ⟨h.later bA,cl_new u [_,_,_] 24,h.bu.size,fun k e=>(h.row.lt k e).2,hx⟩
theorem Mm.rdm (h:Mm q P w v ms M x u) (hp:P<=P'):Mm q P' w v ms M x u:=h.call (h.k.rd.mono hp) (But.refl _ _)
theorem Mk.app {v':Value} (h:Mk q P w v ms u) (hr:u'.ownsRow w.heap.size 24 3 v' (ms.length+1) (G.mkCells ms++[.string x.nm,.string x.tl,.string x.ar])) (hg:u.grownBy u' v.ownBlock) (hx:x.le 4000):Mk q P w v' (ms++[x]) u':=by
 have hb:=gr_bW (Below.refl w.heap.size u) hg h.bu.size (fun k e=>(h.row.lt k e).1);refine ⟨h.rd.laterB hb h.qw,h.bu.laterB hb lr_,h.qw,?_,fun y hy=>?_⟩
 · rw [List.length_append,G.mkCells_snoc];exact hr
 rcases List.mem_append.1 hy with hy | hy
 · exact h.sm y hy
 rw [List.mem_singleton.1 hy];exact hx
theorem c48 (q P:Nat) (w:World) (hp:P<=80000) (hr:RdTo w q P):
 Calls prog 48 #[.pointer (some ⟨q,0,none⟩)] w fun e w'=>(∃ v ms,e=.returned v/\Mk q (P+80) w v ms w'/\ms.length<=6):=by
 have HR:=hdI hr;have hq:=hr.lt;clear hr;go_enter func48,ntmps48
 go_wp2_with fail
 obtain ⟨w0,hw0⟩:∃ y:World,y=w.alloc (.cells #[] 24):=⟨_,rfl⟩;rw [<- hw0];have H0:Hid (Mk q P w (.slice (some ⟨w.heap.size,0,none⟩) 0 0) [] w0):=by
  have hb:Below w.heap.size w w0:=by rw [hw0];exact bA
  exact ⟨HR.out.later hb,But.of_below hb,hq,by rw [hw0];exact row0 w 24 3 lr_,fun x h=>nomatch h⟩
 clear hw0 HR;refine (pickT w0 q P 5 om_ om_ om_ H0.out.rd).mono ?_;rintro e w1 ⟨⟨r0,rfl,r00,r01⟩,h1,ho⟩;have H1:=hdI (H0.out.call h1 ho.but);clear H0 h1 ho;obtain ⟨L,rfl⟩:=Int.eq_ofNat_of_zero_le r00
 go_wp2_with fail
 go_loopw [3,5] (fun v i wr=>∃ (k:Nat) (ms:List M3),i=.int .i64 k/\k<=2+L/\ms.length=k/\Hid (Mk q (P+1+13*k) w v ms wr)) (fun _ i _=>2+L - (intOf i).toNat)
 case atStart=>exact ⟨0,[],rfl,om_,rfl,H1⟩
 clear H1;obtain ⟨k,ms,rfl,hk,hml,H⟩:=hrel;by_cases hlt:k<2+L;rotate_left
 · obtain rfl:k=2+L:=om_
   go_wp2;go_ret;exact ⟨_,ms,rfl,H.out.call (H.out.rd.mono om_) (But.refl _ _),om_⟩
 have hk9:k<100:=om_;have hdl:(ofL (Lib.decDigits k)).size<=2:=by rw [ofL_size];exact decLen k hk9
 go_wp2_with fail
 refine (c46 k wr hk9).mono ?_;rintro e y1 ⟨rfl,hb⟩;have H1:=hdI (H.out.later hb);clear H hb
 go_wp2_with fail
 refine (pickT y1 q (P+1+13*k) 4 om_ om_ om_ H1.out.rd).mono ?_;rintro e y2 ⟨⟨r,rfl,h0,h1⟩,hr,ho⟩;have H2:=hdI (H1.out.call hr ho.but);clear H1 hr ho;obtain ⟨m,rfl⟩:=Int.eq_ofNat_of_zero_le h0;have hm9:m<100:=om_;have hdm:(ofL (Lib.decDigits m)).size<=2:=by rw [ofL_size];exact decLen m hm9
 go_wp2_with fail
 refine (c46 m y2 hm9).mono ?_;rintro e y3 ⟨rfl,hb⟩;have H3:=hdI (H2.out.later hb);clear H2 hb
 go_wp2_with fail
 refine (c81 q (P+1+13*k+1) y3 om_ H3.out.rd).mono ?_;rintro e y4 ⟨⟨ar,rfl,har⟩,hr,hb⟩;have H4:=hdI (H3.out.call hr hb);clear H3 hr hb;obtain ⟨nm,hnm,hns⟩:∃ s:ByteArray,s=⟨#[120]⟩++ofL (Lib.decDigits k)/\s.size<=4000:=⟨_,rfl,by rw [ByteArray.size_append];have e1:ByteArray.size ⟨#[120]⟩=1:=rfl;omega⟩;obtain ⟨tl,htl,hts⟩:∃ s:ByteArray,s=⟨#[116]⟩++ofL (Lib.decDigits m)/\s.size<=4000:=⟨_,rfl,by rw [ByteArray.size_append];have e1:ByteArray.size ⟨#[116]⟩=1:=rfl;omega⟩;rw [<- hnm,<- htl];clear hnm htl hdl hdm;obtain ⟨y5,hy5⟩:∃ y:World,y=y4.alloc (.cells #[.string nm,.string tl,.string ar] 24):=⟨_,rfl⟩;have H5:Hid (Mm q (P+1+13*k+3) w u3 ms y4.heap.size ⟨nm,tl,ar⟩ y5):=by
  show Mm _ _ _ _ _ _ _ _;rw [hy5];exact H4.out.new (x:=⟨nm,tl,ar⟩) ⟨hns,hts,by show ar.size<=4000;omega⟩
 go_wp2_with fail
 rw [<- hy5];clear hy5 H4;generalize y4.heap.size=M at*;refine (pickT y5 q (P+1+13*k+3) 3 om_ om_ om_ H5.out.k.rd).mono ?_;rintro e y6 ⟨⟨r,rfl,h0,h1⟩,hr,ho⟩;have H6:=hdI (H5.out.call hr ho.but);clear H5 hr ho;have mark:True:=trivial;rcases Classical.em (r=0) with hr0 | hr0
 case' inl=>
   subst hr0
   go_wp2_with fail
   refine (pickT y6 q (P+1+13*k+4) 3 om_ om_ om_ H6.out.k.rd).mono ?_;rintro e y7 ⟨⟨r2,rfl,h20,h21⟩,hr,ho⟩;have H7:=hdI (H6.out.call hr ho.but);clear H6 hr ho;have d2:=H7.out.hM.cell 2;have f2:=H7.out.hM.opn 2;dsimp only [List.getElem?_cons_zero,List.getElem?_cons_succ] at d2;obtain rfl | rfl | rfl:r2=0\/r2=1\/r2=2:=om_
   go_wp2_with fail
   have H8:=hdI ((H7.out.ar (s:=((⟨#[97,98,99]⟩:ByteArray).extract 0 3).extract 0 1) dc_).rdm (P':=P+1+13*k+9) om_);clear H7 d2 f2;generalize (y7.setCell ⟨M,2,none⟩ _)=y8 at H8 ⊢;generalize (⟨nm,tl,_⟩:M3)=x8 at H8;revert mark;rotate_left
   go_wp2_with fail
   have H8:=hdI ((H7.out.ar (s:=((⟨#[97,98,99]⟩:ByteArray).extract 1 3).extract 0 1) dc_).rdm (P':=P+1+13*k+9) om_);clear H7 d2 f2;generalize (y7.setCell ⟨M,2,none⟩ _)=y8 at H8 ⊢;generalize (⟨nm,tl,_⟩:M3)=x8 at H8;revert mark;rotate_left
   go_wp2_with fail
   have H8:=hdI ((H7.out.ar (s:=((⟨#[97,98,99]⟩:ByteArray).extract 2 3).extract 0 1) dc_).rdm (P':=P+1+13*k+9) om_);clear H7 d2 f2;generalize (y7.setCell ⟨M,2,none⟩ _)=y8 at H8 ⊢;generalize (⟨nm,tl,_⟩:M3)=x8 at H8;revert mark
 case' inr=>
   have hrb:(r==0)=false:=by simpa using hr0
   go_wp2_with fail
   refine (pickT y6 q (P+1+13*k+4) 2 om_ om_ om_ H6.out.k.rd).mono ?_;rintro e y7 ⟨⟨r2,rfl,h20,h21⟩,hr,ho⟩;have H7:=hdI (H6.out.call hr ho.but);clear H6 hr ho;rcases Classical.em (r2=0/\0<k) with hc | hc
   case' inr=>
    have hb2:(r2==0)=false\/((r2==0)=true/\decide (0<k)=false):=by
     rcases Classical.em (r2=0) with h | h
     · exact .inr ⟨by simpa using h,decide_eq_false (fun h2=>hc ⟨h,om_⟩)⟩
     exact .inl (by simpa using h)
    have H8:=hdI (H7.out.rdm (P':=P+1+13*k+9) om_);clear H7 hc;generalize hx8:(⟨nm,tl,ar⟩:M3)=x8 at H8;clear hx8;generalize y7=y8 at*;rcases hb2 with hb2 | ⟨hb2,hb3⟩
    all_goals go_wp2_with fail
    all_goals revert mark
   case' inl=>
    obtain ⟨rfl,hkp⟩:=hc
    go_wp2_with fail
    refine (pickT y7 q (P+1+13*k+5) k om_ om_ om_ H7.out.k.rd).mono ?_;rintro e a1 ⟨⟨s1,rfl,s10,s11⟩,hr,ho⟩;have G1:=hdI (H7.out.call hr ho.but);clear H7 hr ho;obtain ⟨m1,rfl⟩:=Int.eq_ofNat_of_zero_le s10;have hm1:m1<100:=om_;have hd1:(ofL (Lib.decDigits m1)).size<=2:=by rw [ofL_size];exact decLen m1 hm1
    go_wp2_with fail
    refine (c46 m1 a1 hm1).mono ?_;rintro e a2 ⟨rfl,hb⟩;have G2:=hdI (G1.out.later hb);clear G1 hb
    go_wp2_with fail
    refine (pickT a2 q (P+1+13*k+6) k om_ om_ om_ G2.out.k.rd).mono ?_;rintro e a3 ⟨⟨s2,rfl,s20,s21⟩,hr,ho⟩;have G3:=hdI (G2.out.call hr ho.but);clear G2 hr ho;obtain ⟨m2,rfl⟩:=Int.eq_ofNat_of_zero_le s20;have hm2:m2<100:=om_;have hd2:(ofL (Lib.decDigits m2)).size<=2:=by rw [ofL_size];exact decLen m2 hm2
    go_wp2_with fail
    refine (c46 m2 a3 hm2).mono ?_;rintro e a4 ⟨rfl,hb⟩;have G4:=hdI (G3.out.later hb);clear G3 hb;have hls:([.string ⟨#[]⟩,.string (⟨#[10,120]⟩++ofL (Lib.decDigits m2)),.string ⟨#[10,97]⟩]:List Value).all (strB 4)=true:=by
     simp [strB,ByteArray.size_append];exact ⟨dc_,by have:ByteArray.size ⟨#[10,120]⟩=2:=rfl;omega,dc_⟩
    obtain ⟨a5,ha5⟩:∃ y:World,y=a4.alloc (.cells #[.string ⟨#[]⟩,.string (⟨#[10,120]⟩++ofL (Lib.decDigits m2)),.string ⟨#[10,97]⟩] 9):=⟨_,rfl⟩;have b5:Below a4.heap.size a4 a5:=by rw [ha5];exact bA
    have C5:Hid (Cl a5 a4.heap.size 9 [.string ⟨#[]⟩,.string (⟨#[10,120]⟩++ofL (Lib.decDigits m2)),.string ⟨#[10,97]⟩]):=by show Cl _ _ _ _;rw [ha5];exact cl_new a4 _ 9
    have G5:=hdI (G4.out.later b5);have hqa:=G4.out.k.rd.lt
    go_wp2_with fail
    rw [<- ha5];clear ha5 b5 G4;refine (pickT a5 q (P+1+13*k+7) 3 om_ om_ om_ G5.out.k.rd).mono ?_;rintro e a6 ⟨⟨s3,rfl,s30,s31⟩,hr,ho⟩;have G6:=hdI (G5.out.call hr ho.but);have C6:Cl a6 a4.heap.size 9 [.string ⟨#[]⟩,.string (⟨#[10,120]⟩++ofL (Lib.decDigits m2)),.string ⟨#[10,97]⟩]:=(ho.block _ om_).trans C5.out;clear G5 hr ho C5;obtain ⟨z,hz,hzs⟩:=lit_str _ 4 hls s30 (by simpa using s31);have dz:=(C6.cell s3.toNat).trans hz;have d2:=G6.out.hM.cell 2;have f2:=G6.out.hM.opn 2;dsimp only [List.getElem?_cons_zero,List.getElem?_cons_succ] at d2;obtain ⟨X1,hX1,hXs⟩:∃ s:ByteArray,s=⟨#[120]⟩++ofL (Lib.decDigits m1)/\s.size<=3:=⟨_,rfl,by rw [ByteArray.size_append];have e1:ByteArray.size ⟨#[120]⟩=1:=rfl;omega⟩;rw [<- hX1];clear hX1 hls hz C6
    go_wp2_with fail
    have H8:=hdI ((G6.out.ar (s:=X1++z) (by rw [ByteArray.size_append];omega)).rdm (P':=P+1+13*k+9) om_);clear G6 d2 f2 dz;generalize (a6.setCell ⟨M,2,none⟩ _)=y8 at H8 ⊢;generalize (⟨nm,tl,_⟩:M3)=x8 at H8;revert mark
 all_goals
  intro _;refine (pickT y8 q (P+1+13*k+9) 16 om_ om_ om_ H8.out.k.rd).mono ?_;rintro e y9 ⟨⟨r9,rfl,h90,h91⟩,hr,ho⟩;have H9:=hdI (H8.out.call hr ho.but);clear H8 hr ho;have hmk2:True:=trivial;rcases Classical.em (r9=0) with hr9 | hr9
  case' inl=>
    subst hr9;obtain ⟨a5,ha5⟩:∃ y:World,y=y9.alloc (.cells #[.string ⟨#[120,48]⟩,.string ⟨#[120,53]⟩,.string ⟨#[110,111,110,101]⟩,.string ⟨#[97]⟩] 9):=⟨_,rfl⟩;have b5:Below y9.heap.size y9 a5:=by rw [ha5];exact bA
    have C5:Hid (Cl a5 y9.heap.size 9 [.string ⟨#[120,48]⟩,.string ⟨#[120,53]⟩,.string ⟨#[110,111,110,101]⟩,.string ⟨#[97]⟩]):=by show Cl _ _ _ _;rw [ha5];exact cl_new y9 _ 9
    have G5:=hdI (H9.out.later b5);have hqa:=H9.out.k.rd.lt
    go_wp2_with fail
    rw [<- ha5];clear ha5 b5 H9;refine (pickT a5 q (P+1+13*k+10) 4 om_ om_ om_ G5.out.k.rd).mono ?_;rintro e a6 ⟨⟨s3,rfl,s30,s31⟩,hr,ho⟩;have G6:=hdI (G5.out.call hr ho.but);have C6:Cl a6 y9.heap.size 9 [.string ⟨#[120,48]⟩,.string ⟨#[120,53]⟩,.string ⟨#[110,111,110,101]⟩,.string ⟨#[97]⟩]:=(ho.block _ om_).trans C5.out;clear G5 hr ho C5;obtain ⟨z,hz,hzs⟩:=lit_str [.string ⟨#[120,48]⟩,.string ⟨#[120,53]⟩,.string ⟨#[110,111,110,101]⟩,.string ⟨#[97]⟩] 4 dc_ s30 (by simpa using s31);have dz:=(C6.cell s3.toNat).trans hz;have d1:=G6.out.hM.cell 1;have f1:=G6.out.hM.opn 1;dsimp only [List.getElem?_cons_zero,List.getElem?_cons_succ] at d1;have H10:=hdI ((G6.out.tl (s:=z) om_).rdm (P':=P+1+13*k+11) om_);clear hz C6;generalize hx9:(⟨x8.nm,z,x8.ar⟩:M3)=x9 at H10;clear hx9;obtain ⟨y10,hy10⟩:∃ y:World,y=a6.setCell ⟨M,1,none⟩ (.string z):=⟨_,rfl⟩;rw [<- hy10] at H10;have e10:y10.heap.size=a6.heap.size:=by rw [hy10];simp
  case' inr=>
    have hrb:(r9==0)=false:=by simpa using hr9
    have H10:=hdI (H9.out.rdm (P':=P+1+13*k+11) om_);obtain ⟨y10,hy10⟩:∃ y:World,y=y9:=⟨_,rfl⟩;rw [<- hy10] at H10;have e10:y10.heap.size=y9.heap.size:=by rw [hy10]
    generalize hx9:x8=x9 at H10;clear hx9 H9
  all_goals
   have dm0:=H10.out.hM.cell 0;have dm1:=H10.out.hM.cell 1;have dm2:=H10.out.hM.cell 2;rw [hy10] at dm0 dm1 dm2;dsimp only [List.getElem?_cons_zero,List.getElem?_cons_succ] at dm0 dm1 dm2;obtain ⟨Y,hY⟩:∃ y:World,y=y10.alloc (.cells #[.string x9.nm,.string x9.tl,.string x9.ar] 24):=⟨_,rfl⟩;have bY:Below y10.heap.size y10 Y:=by rw [hY];exact bA
   have CY:Hid (Cl Y y10.heap.size 24 [.string x9.nm,.string x9.tl,.string x9.ar]):=by show Cl _ _ _ _;rw [hY];exact cl_new y10 [_,_,_] 24
   have HY:=hdI (H10.out.k.later bY);have hle:=hdI H10.out.le;rw [e10] at CY;rw [hy10] at hY;have E10:=hdI e10;clear e10 hy10 bY H10
   go_wp2_with (at_builtin;rw [<- hY];refine wl_app rfl _ _ 94 rfl w.heap.size 24 3 underlying94 inf24 dc_ _ ms.length _ rfl HY.out.row _ 1 [.string x9.nm,.string x9.tl,.string x9.ar] rfl (.inr ⟨⟨_,0,none⟩,1,rfl,rfl,cl_row CY.out⟩) (by simp [Value.oneCell']) om_ HY.out.bu.size ?_;intro v' y11 O2 g2 hn2;have HN:=hdI (HY.out.app (x:=x9) O2 g2 hle.out);clear O2 g2 hn2)
   go_roundw
   case rel=>exact ⟨k+1,ms++[x9],by go_num,om_,by simp [hml],HN.out.call (HN.out.rd.mono om_) (But.refl _ _)⟩
   case measure=>simp [intOf];omega
end Go.Proofs.YthjhakdpikdoeaaGreatDoor
