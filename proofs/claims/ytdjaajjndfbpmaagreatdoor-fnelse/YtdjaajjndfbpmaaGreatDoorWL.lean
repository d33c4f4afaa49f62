import Derived.Test.YtdjaajjndfbpmaaGreatDoorWK
set_option linter.unusedVariables false
set_option maxHeartbeats 8000000
set_option maxRecDepth 100000
namespace Go.Proofs.YtdjaajjndfbpmaaGreatDoor
open Proofs.Tryz
open Go.RowKit
theorem LJ:Inf prog 47 3:=Ui U2
structure Mk (q P:Nat) (w:World) (v:Value) (ms:List M3) (u:World):Prop where
 rd:D6 u q P
 bu:But q w u
 qw:q<w.heap.size
 row:u.ownsRow w.heap.size 47 3 v ms.length (G.R5 ms)
 sm:∀ x∈ms,x.le 4000
structure Mm (q P:Nat) (w:World) (v:Value) (ms:List M3) (M:Nat) (x:M3) (u:World):Prop where
 k:Mk q P w v ms u
 hM:Cl u M 47 [.string x.nm,.string x.tl,.string x.ar]
 hw:w.heap.size<=M
 lt:∀ k,v.ownBlock=some k->k<M
 le:x.le 4000
variable {q P P' M:Nat} {w u u':World} {v:Value} {ms:List M3} {x:M3}
theorem Mk.call (h:Mk q P w v ms u) (b:D6 u' q P') (a:But q u u'):Mk q P' w v ms u':=⟨b,h.bu.trans a,h.qw,Ih h.row a h.qw,h.sm⟩
theorem Mk.later (h:Mk q P w v ms u) (a:Below u.heap.size u u'):Mk q P w v ms u':=h.call (h.rd.later a) (But.of_below a)
theorem Mm.call (h:Mm q P w v ms M x u) (b:D6 u' q P') (a:But q u u'):Mm q P' w v ms M x u':=by
 have:=h.k.qw;have:=h.hw;exact ⟨h.k.call b a,(a.block _ h.hM.lt O0).trans h.hM,h.hw,h.lt,h.le⟩
theorem Mm.later (h:Mm q P w v ms M x u) (a:Below u.heap.size u u'):Mm q P w v ms M x u':=h.call (h.k.rd.later a) (But.of_below a)
theorem Mm.on (h:Mm q P w v ms M x u) (j:Nat) (y:Value):Mk q P w v ms (u.setCell ⟨M,j,none⟩ y):=by
 have:=h.k.qw;have:=h.hw;exact ⟨J8 h.k.rd O0 _ _,U7 h.k.bu h.hw _ _,h.k.qw,bn h.k.row (fun e=>by have:=h.lt M e;omega),h.k.sm⟩
theorem Mm.ar (h:Mm q P w v ms M x u) {s:ByteArray} (a:s.size<=4000):Mm q P w v ms M ⟨x.nm,x.tl,s⟩ (u.setCell ⟨M,2,none⟩ (.string s)):=⟨h.on 2 _,h.hM.set 2 _,h.hw,h.lt,h.le.1,h.le.2.1,a⟩
theorem Mm.tl (h:Mm q P w v ms M x u) {s:ByteArray} (a:s.size<=4000):Mm q P w v ms M ⟨x.nm,s,x.ar⟩ (u.setCell ⟨M,1,none⟩ (.string s)):=⟨h.on 1 _,h.hM.set 1 _,h.hw,h.lt,h.le.1,a,h.le.2.2⟩
theorem Mk.new (h:Mk q P w v ms u) (hx:x.le 4000):Mm q P w v ms u.heap.size x (u.alloc (.cells #[.string x.nm,.string x.tl,.string x.ar] 47)):=
 ⟨h.later bA,U1 u [_,_,_] 47,h.bu.size,fun k e=>(h.row.lt k e).2,hx⟩
theorem Mm.jl (h:Mm q P w v ms M x u) (a:P<=P'):Mm q P' w v ms M x u:=h.call (h.k.rd.mono a) (But.refl _ _)
theorem Mk.app {v':Value} (h:Mk q P w v ms u) (c:u'.ownsRow w.heap.size 47 3 v' (ms.length+1) (G.R5 ms++[.string x.nm,.string x.tl,.string x.ar])) (d:u.grownBy u' v.ownBlock) (hx:x.le 4000):Mk q P w v' (ms++[x]) u':=by
 have b:=ai (F4 w.heap.size u) d h.bu.size (fun k e=>(h.row.lt k e).1);refine ⟨h.rd.H_ b h.qw,h.bu.H_ b P9,h.qw,?_,fun y a=>?_⟩
 · rw [Q7,G.Mh];exact c
 rcases P8.1 a with a | a
 · exact h.sm y a
 rw [R9.1 a];exact hx
theorem PO (q P:Nat) (w:World) (hp:P<=80000) (a:D6 w q P):
 Calls prog 65 #[.pointer (some ⟨q,0,none⟩)] w fun e w'=>(∃ v ms,e=.returned v/\Mk q (P+80) w v ms w'/\ms.length<=6):=by
 have HR:=M4 a;have hq:=a.lt;clear a;go_enter func65,ntmps65
 go_wp2_with fail
 obtain ⟨w0,X⟩:∃ y:World,y=w.alloc (.cells #[] 47):=⟨_,rfl⟩;rw [<- X];have H0:Hid (Mk q P w (.slice (some ⟨w.heap.size,0,none⟩) 0 0) [] w0):=by
  have b:Below w.heap.size w w0:=by rw [X];exact bA
  exact ⟨HR.out.later b,But.of_below b,hq,by rw [X];exact row0 w 47 3 P9,fun x h=>nomatch h⟩
 clear X HR;refine (X5 w0 q P 5 O0 O0 O0 H0.out.rd).mono ?_;rintro e w1 ⟨⟨r0,rfl,r00,r01⟩,h1,ho⟩;have K:=M4 (H0.out.call h1 ho.but);clear H0 h1 ho;obtain ⟨L,rfl⟩:=A8 r00
 go_wp2_with fail
 go_loopw [3,5] (fun v i wr=>∃ (k:Nat) (ms:List M3),i=.int .i64 k/\k<=2+L/\ms.length=k/\Hid (Mk q (P+1+13*k) w v ms wr)) (fun _ i _=>2+L - (intOf i).toNat)
 case atStart=>exact ⟨0,[],rfl,O0,rfl,K⟩
 clear K;obtain ⟨k,ms,rfl,hk,hml,H⟩:=hrel;by_cases hlt:k<2+L;rotate_left
 · obtain rfl:k=2+L:=O0
   go_wp2;go_ret;exact ⟨_,ms,rfl,H.out.call (H.out.rd.mono O0) (But.refl _ _),O0⟩
 have hk9:k<100:=O0;have hdl:(Q3 (Lib.decDigits k)).size<=2:=by rw [J3];exact Sa k hk9
 go_wp2_with fail
 refine (Rs k wr hk9).mono ?_;rintro e y1 ⟨rfl,b⟩;have K:=M4 (H.out.later b);clear H b
 go_wp2_with fail
 refine (X5 y1 q (P+1+13*k) 4 O0 O0 O0 K.out.rd).mono ?_;rintro e y2 ⟨⟨r,rfl,h0,h1⟩,a,ho⟩;have H2:=M4 (K.out.call a ho.but);clear K a ho;obtain ⟨m,rfl⟩:=A8 h0;have hm9:m<100:=O0;have hdm:(Q3 (Lib.decDigits m)).size<=2:=by rw [J3];exact Sa m hm9
 go_wp2_with fail
 refine (Rs m y2 hm9).mono ?_;rintro e y3 ⟨rfl,b⟩;have H3:=M4 (H2.out.later b);clear H2 b
 go_wp2_with fail
 refine (RO q (P+1+13*k+1) y3 O0 H3.out.rd).mono ?_;rintro e y4 ⟨⟨ar,rfl,har⟩,a,b⟩;have H4:=M4 (H3.out.call a b);clear H3 a b;obtain ⟨nm,hnm,hns⟩:∃ s:ByteArray,s=⟨#[120]⟩++Q3 (Lib.decDigits k)/\s.size<=4000:=⟨_,rfl,by rw [K9];have e1:ByteArray.size ⟨#[120]⟩=1:=rfl;omega⟩;obtain ⟨tl,htl,hts⟩:∃ s:ByteArray,s=⟨#[116]⟩++Q3 (Lib.decDigits m)/\s.size<=4000:=⟨_,rfl,by rw [K9];have e1:ByteArray.size ⟨#[116]⟩=1:=rfl;omega⟩;rw [<- hnm,<- htl];clear hnm htl hdl hdm;obtain ⟨y5,VY⟩:∃ y:World,y=y4.alloc (.cells #[.string nm,.string tl,.string ar] 47):=⟨_,rfl⟩;have H5:Hid (Mm q (P+1+13*k+3) w u3 ms y4.heap.size ⟨nm,tl,ar⟩ y5):=by
  show Mm _ _ _ _ _ _ _ _;rw [VY];exact H4.out.new (x:=⟨nm,tl,ar⟩) ⟨hns,hts,by show ar.size<=4000;omega⟩
 go_wp2_with fail
 rw [<- VY];clear VY H4;generalize y4.heap.size=M at*;refine (X5 y5 q (P+1+13*k+3) 3 O0 O0 O0 H5.out.k.rd).mono ?_;rintro e y6 ⟨⟨r,rfl,h0,h1⟩,a,ho⟩;have J:=M4 (H5.out.call a ho.but);clear H5 a ho;have O:=trivial;rcases Ie (r=0) with hr0 | hr0
 case' inl=>
   subst hr0
   go_wp2_with fail
   refine (X5 y6 q (P+1+13*k+4) 3 O0 O0 O0 J.out.k.rd).mono ?_;rintro e E ⟨⟨o,rfl,h20,h21⟩,a,ho⟩;have d:=M4 (J.out.call a ho.but);clear J a ho;have B:=d.out.hM.cell 2;have S:=d.out.hM.opn 2;dsimp only [List.getElem?_cons_zero,List.getElem?_cons_succ] at B;obtain rfl | rfl | rfl:o=0\/o=1\/o=2:=O0
   go_wp2_with fail
   have c:=M4 ((d.out.ar (s:=((⟨#[97,98,99]⟩:ByteArray).extract 0 3).extract 0 1) K3).jl (P':=P+1+13*k+9) O0);clear d B S;generalize (E.setCell ⟨M,2,none⟩ _)=N at c ⊢;generalize (⟨nm,tl,_⟩:M3)=A at c;revert O;rotate_left
   go_wp2_with fail
   have c:=M4 ((d.out.ar (s:=((⟨#[97,98,99]⟩:ByteArray).extract 1 3).extract 0 1) K3).jl (P':=P+1+13*k+9) O0);clear d B S;generalize (E.setCell ⟨M,2,none⟩ _)=N at c ⊢;generalize (⟨nm,tl,_⟩:M3)=A at c;revert O;rotate_left
   go_wp2_with fail
   have c:=M4 ((d.out.ar (s:=((⟨#[97,98,99]⟩:ByteArray).extract 2 3).extract 0 1) K3).jl (P':=P+1+13*k+9) O0);clear d B S;generalize (E.setCell ⟨M,2,none⟩ _)=N at c ⊢;generalize (⟨nm,tl,_⟩:M3)=A at c;revert O
 case' inr=>
   have hrb:(r==0)=false:=by simpa using hr0
   go_wp2_with fail
   refine (X5 y6 q (P+1+13*k+4) 2 O0 O0 O0 J.out.k.rd).mono ?_;rintro e E ⟨⟨o,rfl,h20,h21⟩,a,ho⟩;have d:=M4 (J.out.call a ho.but);clear J a ho;rcases Ie (o=0/\0<k) with Z | Z
   case' inr=>
    have hb2:(o==0)=false\/((o==0)=true/\decide (0<k)=false):=by
     rcases Ie (o=0) with h | h
     · exact .inr ⟨by simpa using h,Oh (fun h2=>Z ⟨h,O0⟩)⟩
     exact .inl (by simpa using h)
    have c:=M4 (d.out.jl (P':=P+1+13*k+9) O0);clear d Z;generalize hx8:(⟨nm,tl,ar⟩:M3)=A at c;clear hx8;generalize E=N at*;rcases hb2 with hb2 | ⟨hb2,hb3⟩
    all_goals go_wp2_with fail
    all_goals revert O
   case' inl=>
    obtain ⟨rfl,hkp⟩:=Z
    go_wp2_with fail
    refine (X5 E q (P+1+13*k+5) k O0 O0 O0 d.out.k.rd).mono ?_;rintro e a1 ⟨⟨s1,rfl,s10,s11⟩,a,ho⟩;have G1:=M4 (d.out.call a ho.but);clear d a ho;obtain ⟨Q,rfl⟩:=A8 s10;have hm1:Q<100:=O0;have hd1:(Q3 (Lib.decDigits Q)).size<=2:=by rw [J3];exact Sa Q hm1
    go_wp2_with fail
    refine (Rs Q a1 hm1).mono ?_;rintro e a2 ⟨rfl,b⟩;have G2:=M4 (G1.out.later b);clear G1 b
    go_wp2_with fail
    refine (X5 a2 q (P+1+13*k+6) k O0 O0 O0 G2.out.k.rd).mono ?_;rintro e a3 ⟨⟨s2,rfl,s20,s21⟩,a,ho⟩;have G3:=M4 (G2.out.call a ho.but);clear G2 a ho;obtain ⟨p,rfl⟩:=A8 s20;have hm2:p<100:=O0;have hd2:(Q3 (Lib.decDigits p)).size<=2:=by rw [J3];exact Sa p hm2
    go_wp2_with fail
    refine (Rs p a3 hm2).mono ?_;rintro e I ⟨rfl,b⟩;have G4:=M4 (G3.out.later b);clear G3 b;have hls:([.string ⟨#[]⟩,.string (⟨#[10,120]⟩++Q3 (Lib.decDigits p)),.string ⟨#[10,97]⟩]:List Value).all (Hu 4)=true:=by
     simp [Hu];exact ⟨K3,by have:ByteArray.size ⟨#[10,120]⟩=2:=rfl;omega,K3⟩
    obtain ⟨C,j⟩:∃ y:World,y=I.alloc (.cells #[.string ⟨#[]⟩,.string (⟨#[10,120]⟩++Q3 (Lib.decDigits p)),.string ⟨#[10,97]⟩] 9):=⟨_,rfl⟩;have b5:Below I.heap.size I C:=by rw [j];exact bA
    have W:Hid (Cl C I.heap.size 9 [.string ⟨#[]⟩,.string (⟨#[10,120]⟩++Q3 (Lib.decDigits p)),.string ⟨#[10,97]⟩]):=by show Cl _ _ _ _;rw [j];exact U1 I _ 9
    have D:=M4 (G4.out.later b5);have hqa:=G4.out.k.rd.lt
    go_wp2_with fail
    rw [<- j];clear j b5 G4;refine (X5 C q (P+1+13*k+7) 3 O0 O0 O0 D.out.k.rd).mono ?_;rintro e F ⟨⟨s3,rfl,s30,s31⟩,a,ho⟩;have u:=M4 (D.out.call a ho.but);have V:Cl F I.heap.size 9 [.string ⟨#[]⟩,.string (⟨#[10,120]⟩++Q3 (Lib.decDigits p)),.string ⟨#[10,97]⟩]:=(ho.block _ O0).trans W.out;clear D a ho W;obtain ⟨z,R,hzs⟩:=fe _ 4 hls s30 (by simpa using s31);have dz:=(V.cell s3.toNat).trans R;have B:=u.out.hM.cell 2;have S:=u.out.hM.opn 2;dsimp only [List.getElem?_cons_zero,List.getElem?_cons_succ] at B;obtain ⟨X1,hX1,hXs⟩:∃ s:ByteArray,s=⟨#[120]⟩++Q3 (Lib.decDigits Q)/\s.size<=3:=⟨_,rfl,by rw [K9];have e1:ByteArray.size ⟨#[120]⟩=1:=rfl;omega⟩;rw [<- hX1];clear hX1 hls R V
    go_wp2_with fail
    have c:=M4 ((u.out.ar (s:=X1++z) (by rw [K9];omega)).jl (P':=P+1+13*k+9) O0);clear u B S dz;generalize (F.setCell ⟨M,2,none⟩ _)=N at c ⊢;generalize (⟨nm,tl,_⟩:M3)=A at c;revert O
 all_goals
  intro _;refine (X5 N q (P+1+13*k+9) 16 O0 O0 O0 c.out.k.rd).mono ?_;rintro e l ⟨⟨r9,rfl,h90,h91⟩,a,ho⟩;have U:=M4 (c.out.call a ho.but);clear c a ho;have a4f:=trivial;rcases Ie (r9=0) with hr9 | hr9
  case' inl=>
    subst hr9;obtain ⟨C,j⟩:∃ y:World,y=l.alloc (.cells #[.string ⟨#[120,48]⟩,.string ⟨#[120,53]⟩,.string ⟨#[110,111,110,101]⟩,.string ⟨#[97]⟩] 9):=⟨_,rfl⟩;have b5:Below l.heap.size l C:=by rw [j];exact bA
    have W:Hid (Cl C l.heap.size 9 [.string ⟨#[120,48]⟩,.string ⟨#[120,53]⟩,.string ⟨#[110,111,110,101]⟩,.string ⟨#[97]⟩]):=by show Cl _ _ _ _;rw [j];exact U1 l _ 9
    have D:=M4 (U.out.later b5);have hqa:=U.out.k.rd.lt
    go_wp2_with fail
    rw [<- j];clear j b5 U;refine (X5 C q (P+1+13*k+10) 4 O0 O0 O0 D.out.k.rd).mono ?_;rintro e F ⟨⟨s3,rfl,s30,s31⟩,a,ho⟩;have u:=M4 (D.out.call a ho.but);have V:Cl F l.heap.size 9 [.string ⟨#[120,48]⟩,.string ⟨#[120,53]⟩,.string ⟨#[110,111,110,101]⟩,.string ⟨#[97]⟩]:=(ho.block _ O0).trans W.out;clear D a ho W;obtain ⟨z,R,hzs⟩:=fe [.string ⟨#[120,48]⟩,.string ⟨#[120,53]⟩,.string ⟨#[110,111,110,101]⟩,.string ⟨#[97]⟩] 4 K3 s30 (by simpa using s31);have dz:=(V.cell s3.toNat).trans R;have d1:=u.out.hM.cell 1;have f1:=u.out.hM.opn 1;dsimp only [List.getElem?_cons_zero,List.getElem?_cons_succ] at d1;have g:=M4 ((u.out.tl (s:=z) O0).jl (P':=P+1+13*k+11) O0);clear R V;generalize hx9:(⟨A.nm,z,A.ar⟩:M3)=f at g;clear hx9;obtain ⟨n,t⟩:∃ y:World,y=F.setCell ⟨M,1,none⟩ (.string z):=⟨_,rfl⟩;rw [<- t] at g;have e10:n.heap.size=F.heap.size:=by rw [t];simp
  case' inr=>
    have hrb:(r9==0)=false:=by simpa using hr9
    have g:=M4 (U.out.jl (P':=P+1+13*k+11) O0);obtain ⟨n,t⟩:∃ y:World,y=l:=⟨_,rfl⟩;rw [<- t] at g;have e10:n.heap.size=l.heap.size:=by rw [t]
    generalize hx9:A=f at g;clear hx9 U
  all_goals
   have dm0:=g.out.hM.cell 0;have dm1:=g.out.hM.cell 1;have dm2:=g.out.hM.cell 2;rw [t] at dm0 dm1 dm2;dsimp only [List.getElem?_cons_zero,List.getElem?_cons_succ] at dm0 dm1 dm2;obtain ⟨Y,hY⟩:∃ y:World,y=n.alloc (.cells #[.string f.nm,.string f.tl,.string f.ar] 47):=⟨_,rfl⟩;have bY:Below n.heap.size n Y:=by rw [hY];exact bA
   have CY:Hid (Cl Y n.heap.size 47 [.string f.nm,.string f.tl,.string f.ar]):=by show Cl _ _ _ _;rw [hY];exact U1 n [_,_,_] 47
   have HY:=M4 (g.out.k.later bY);have hle:=M4 g.out.le;rw [e10] at CY;rw [t] at hY;have E10:=M4 e10;clear e10 t bY g
   go_wp2_with (at_builtin;rw [<- hY];refine Ve rfl _ _ 44 rfl w.heap.size 47 3 underlying44 LJ K3 _ ms.length _ rfl HY.out.row _ 1 [.string f.nm,.string f.tl,.string f.ar] rfl (.inr ⟨⟨_,0,none⟩,1,rfl,rfl,za CY.out⟩) (by simp [Value.oneCell']) O0 HY.out.bu.size ?_;intro v' y11 O2 g2 hn2;have HN:=M4 (HY.out.app (x:=f) O2 g2 hle.out);clear O2 g2 hn2)
   go_roundw
   case rel=>exact ⟨k+1,ms++[f],by go_num,O0,by simp [hml],HN.out.call (HN.out.rd.mono O0) (But.refl _ _)⟩
   case measure=>simp [intOf];omega
end Go.Proofs.YtdjaajjndfbpmaaGreatDoor
