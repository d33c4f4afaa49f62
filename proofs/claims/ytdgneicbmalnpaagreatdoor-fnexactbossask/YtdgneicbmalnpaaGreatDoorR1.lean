import Derived.Test.YtdgneicbmalnpaaGreatDooreES
import Derived.Test.YtdgneicbmalnpaaGreatDoortWF
import Derived.Test.YtdgneicbmalnpaaGreatDoorpC
set_option linter.all false
set_option maxHeartbeats 0
set_option maxRecDepth 99999
open Go.Value renaming slice->Sa,string->Sb,int->Sc,pointer->Sd
open Go.IntKind renaming i64->Se
open Go.Ending renaming returned->Sf
open Go.Obj renaming cells->Sg
namespace Go.Proofs.YtdgneicbmalnpaaGreatDoor
open Proofs.Tryz Go.RowKit
variable{u w:World}{a:OA}{c:Nat}{ss:LB}
theorem zA(s:BY)(w:World)(h1:1<=s.size)(h16:s.size<=16000)(hw:Y1 ((Z8 10 s.data.toList).getD 0 [])=qh\/Y1 ((Z8 10 s.data.toList).getD 0 [])=Qh\/Y1 ((Z8 10 s.data.toList).getD 0 [])=Je):
 Calls prog 108 #[Sb s] w λe w'=>Is4 s.data.toList w' e/\Bw w w':=by
 have hB0:Bw w ((w.alloc (Sg zE.toArray 171)).alloc (Sg zE.toArray 171)):=U6.alloc J4 _;have hsl:s.data.toList.length=s.size:=J4;have W:Hid (s.data.toList≠[]):=λh=>by rw[h]at hsl;simp at hsl;omega
 have hse:(s.toList==[])=false:=by
  rw[ByteArray.toList_eq];exact S_.2 W.o
 have a7A:¬s.toList=[]:=by simpa using hse
 have a7B:decide (16000<(s.size:Int))=false:=L8
 go_in
 go_wp2_with fail
 refine(c146 s 10 _ O0).mono ?_;rintro e w1⟨⟨g2,cp,rfl,hg2,P⟩,hb1⟩;have a6T:((w.alloc (Sg zE.toArray 171)).alloc (Sg zE.toArray 171)).heap.size=w.heap.size+2:=J4;have H:Below (w.heap.size+2) ((w.alloc (Sg zE.toArray 171)).alloc (Sg zE.toArray 171)) w1:=hb1.mono J4;have a6W:w.heap.size+2<=g2:=by have h:=hg2;simp at h;omega
 have hz1:w.heap.size+2<=w1.heap.size:=by have h:=H.size;rw[a6T]at h;exact h
 have bR1:=((X9 w zE 171).below U6 J4).below H O0;have oR1:=((og w zE.toArray 171).below U6 J4).below H O0;have bM1:=J6.below (by have h:=X9 (w.alloc (Sg zE.toArray 171)) zE 171;simp at h;exact h) H O0;have oM1:=J9.below (by have h:=og (w.alloc (Sg zE.toArray 171)) zE.toArray 171;simp at h;exact h) H O0;have l:=hB0.trans (H.mono O0);have V:=Zn 10 s.data.toList;have Y:=zi 10 s.data.toList;clear hb1 hg2 a6T H;obtain⟨R,Z⟩:∃R,R=Z8 10 s.data.toList:=⟨_,rfl⟩;rw[<- Z]at P V Y hw ⊢;have HLS:=U0 Z.symm;have HCS:Hid (∀k,(R.getD k []).length<=16000):=λk=>X7 (Y k) O0;obtain⟨F,hF⟩:∃F,F=R.getD 0 []:=⟨_,rfl⟩;have HF:=U0 hF.symm;have hFl:F.length<=16000:=by rw[hF];exact HCS.o 0
 rw[<- hF]at hw;have a6X:=V.1;have a7u:R.length<=16001:=by have:=V.2;omega
 have c0:w1.cell? (aA g2 0)=some (vS (U3 F)):=by rw[hF];exact P.2 0 a6X
 have a6Y:=P.1;clear hF Z Y V
 go_wp2_with fail
 refine(Zv F _ O0 1 O0 O0).mono ?_;rintro e b⟨⟨g3,cp3,rfl,hg3,X⟩,y⟩;have hz3:=y.size;have bR:=J6.below bR1 y O0;have J:=J9.below oR1 y O0;have r:=J6.below bM1 y O0;have u:=J9.below oM1 y O0;have hL3:=U0 (Qg P y);have K:=E5 l y;have d0:b.cell? (aA g3 0)=some (vS (U3 (Y1 F))):=X.2 0 (by simp[Q_]);have a7k:=X.1;have hrs:=X8 F;have hrN:U3 (g_ F 1)=U3 (Y2 F):=rfl;rw[hrN];clear hrN y bR1 oR1 bM1 oM1 P l X c0 hB0;have hMz:w.heap.size+1<b.heap.size:=O0;have hRB:w.heap.size<w.heap.size+1:=O0;have a7l:w.heap.size+1<g3:=O0;have a7v:w.heap.size+1<g2:=O0;have a6Z:g2<b.heap.size:=O0;clear hg3 a6Y a6W hz1 hz3;generalize w.heap.size+1=a at*;rcases hw with hw|hw|hw
 ·have i:=U0 (a2h (by rw[HLS.o];exact HF.o) hw);have HW:=U0 hw;have x:U3 (Y1 F)=⟨#[99,108,101,97,114]⟩:=by rw[hw];rfl
  rw[x]at d0;clear hw x;have k0:=r 0 _ rfl;have f0:=u 0;have p:J6 (b.setCell (aA a 0) (vI 5)) a ((Ua).c none 0):=r.set 0 (vI 5) (by show 0<10;omega);have B:J6 (b.setCell (aA a 0) (vI 5)) w.heap.size zE:=bR.other _ _ (by show a≠w.heap.size;omega);have D:J9 (b.setCell (aA a 0) (vI 5)) w.heap.size:=J.set _ _;have A:Bw w (b.setCell (aA a 0) (vI 5)):=K.setCell (by show w.heap.size<=a;omega) _;have O:a<(b.setCell (aA a 0) (vI 5)).heap.size:=L8;have z:w.heap.size<(b.setCell (aA a 0) (vI 5)).heap.size:=L8;have q:O9 (b.setCell (aA a 0) (vI 5)) none (Ua).ls:=.inl rfl;have v:(Ua).le 1048576:=⟨Y4 _,Y4 _,⟨Y4 _,Y4 _,Y4 _⟩,⟨Y4 _,λ_=>⟨Y4 _,Y4 _⟩⟩,Y4 _⟩;have Q:∀g o,(none:OA)=some (aA g o)->g≠w.heap.size:=λ_ _ h=>by cases h
  clear r u bR J K
  go_wp2_with(refine Cb (by rfl) 171 (.tmp 4) rfl a rfl ((Ua).c none 0) _ p underlying171 rfl Y0 ?_)
  refine(c152 (Ua) none 0 _ v q).mono ?_;rintro e U1⟨⟨f,rfl,hT⟩,d⟩;have S:=J6.below p d O;have j:=J6.below B d z;have C:=J9.below D d z;have l:=E5 A d;have U:=Q7 q d;clear p B D q A d;by_cases he:f.data.toList=s.data.toList
  ·have n:=U0 (Us i hT W he);have m:f.toList=s.toList:=by rw[ByteArray.toList_eq,ByteArray.toList_eq];exact he
   have e1:(f.toList==s.toList)=true:=by simpa using m
   clear hT i he
   go_wp2_with(first|refine Cc rfl 171 (.tmp 4) rfl a rfl ((Ua).c none 0) _ S underlying171 rfl Y0 ?_|refine H8 rfl 171 (.tmp 2) (.tmp 123) rfl w.heap.size 0 rfl ((Ua).c none 0) rfl (l_ j _ rfl) C (z_.uD _ _ _) Y0 rfl ?_)
   exact sJ (Ua) none 0 true n (λh=>by cases h) v (gm _ U Q) rfl rfl rfl j l
  have n:=U0 (Dw i hT he);have m:¬f.toList=s.toList:=by rw[ByteArray.toList_eq,ByteArray.toList_eq];exact he
  have e1:(f.toList==s.toList)=false:=by simpa using m
  clear hT i he
  go_wp2_with(refine H8 rfl 171 (.tmp 2) (.tmp 122) rfl w.heap.size 0 rfl zE rfl (l_ j zE rfl) C (by simp[zE,Value.oneCell']) Y0 rfl ?_)
  exact ql n rfl rfl rfl j l
 ·have i:=U0 (a3a (by rw[HLS.o];exact HF.o) hw);have HW:=U0 hw;have x:U3 (Y1 F)=⟨#[100,114,111,112]⟩:=by rw[hw];rfl
  rw[x]at d0;clear hw x;have k0:=r 0 _ rfl;have f0:=u 0;have k2:=r 2 _ rfl;have f2:=u 2;have p:J6 ((b.setCell (aA a 0) (vI 3)).setCell (aA a 2) (vS (U3 (Y2 F)))) a ((Oc (U3 (Y2 F))).c none 0):=(r.set 0 (vI 3) (by show 0<10;omega)).set 2 (vS (U3 (Y2 F))) (by show 2<10;omega);have B:J6 ((b.setCell (aA a 0) (vI 3)).setCell (aA a 2) (vS (U3 (Y2 F)))) w.heap.size zE:=(bR.other _ _ (by show a≠w.heap.size;omega)).other _ _ (by show a≠w.heap.size;omega);have D:J9 ((b.setCell (aA a 0) (vI 3)).setCell (aA a 2) (vS (U3 (Y2 F)))) w.heap.size:=(J.set _ _).set _ _;have A:Bw w ((b.setCell (aA a 0) (vI 3)).setCell (aA a 2) (vS (U3 (Y2 F)))):=(K.setCell (by show w.heap.size<=a;omega) _).setCell (by show w.heap.size<=a;omega) _;have O:a<((b.setCell (aA a 0) (vI 3)).setCell (aA a 2) (vS (U3 (Y2 F)))).heap.size:=L8;have z:w.heap.size<((b.setCell (aA a 0) (vI 3)).setCell (aA a 2) (vS (U3 (Y2 F)))).heap.size:=L8;have q:O9 ((b.setCell (aA a 0) (vI 3)).setCell (aA a 2) (vS (U3 (Y2 F)))) none (Oc (U3 (Y2 F))).ls:=.inl rfl;have v:(Oc (U3 (Y2 F))).le 1048576:=⟨by show(U3 (Y2 F)).size<=1048576;rw[I5];omega,Y4 _,⟨Y4 _,Y4 _,Y4 _⟩,⟨Y4 _,λ_=>⟨Y4 _,Y4 _⟩⟩,Y4 _⟩;have Q:∀g o,(none:OA)=some (aA g o)->g≠w.heap.size:=λ_ _ h=>by cases h
  clear r u bR J K;generalize U3 (Y2 F)=L at*
  go_wp2_with(refine Cb (by rfl) 171 (.tmp 4) rfl a rfl ((Oc L).c none 0) _ p underlying171 rfl Y0 ?_)
  refine(c152 (Oc L) none 0 _ v q).mono ?_;rintro e U1⟨⟨f,rfl,hT⟩,d⟩;have S:=J6.below p d O;have j:=J6.below B d z;have C:=J9.below D d z;have l:=E5 A d;have U:=Q7 q d;clear p B D q A d;by_cases he:f.data.toList=s.data.toList
  ·have n:=U0 (Us i hT W he);have m:f.toList=s.toList:=by rw[ByteArray.toList_eq,ByteArray.toList_eq];exact he
   have e1:(f.toList==s.toList)=true:=by simpa using m
   clear hT i he
   go_wp2_with(first|refine Cc rfl 171 (.tmp 4) rfl a rfl ((Oc L).c none 0) _ S underlying171 rfl Y0 ?_|refine H8 rfl 171 (.tmp 2) (.tmp 123) rfl w.heap.size 0 rfl ((Oc L).c none 0) rfl (l_ j _ rfl) C (z_.uD _ _ _) Y0 rfl ?_)
   exact sJ (Oc L) none 0 true n (λh=>by cases h) v (gm _ U Q) rfl rfl rfl j l
  have n:=U0 (Dw i hT he);have m:¬f.toList=s.toList:=by rw[ByteArray.toList_eq,ByteArray.toList_eq];exact he
  have e1:(f.toList==s.toList)=false:=by simpa using m
  clear hT i he
  go_wp2_with(refine H8 rfl 171 (.tmp 2) (.tmp 122) rfl w.heap.size 0 rfl zE rfl (l_ j zE rfl) C (by simp[zE,Value.oneCell']) Y0 rfl ?_)
  exact ql n rfl rfl rfl j l
 have i:=U0 (a3i (by rw[HLS.o];exact HF.o) hw);have HW:=U0 hw;have x:U3 (Y1 F)=⟨#[101,112,111,99,104]⟩:=by rw[hw];rfl
 rw[x]at d0;clear hw x;have k0:=r 0 _ rfl;have f0:=u 0
 go_wp2_with fail
 refine(c148 (U3 (Y2 F)) _ (by rw[I5];omega)).mono ?_;rintro e t⟨rfl,I⟩;rw[a_];have E:(b.setCell (aA a 0) (vI 1)).heap.size=b.heap.size:=J4;have hz4:b.heap.size<=t.heap.size:=by have h:=I.size;rw[E]at h;exact h
 have bM4:=J6.below (r.set 0 (vI 1) (by show 0<10;omega)) I (by rw[E];exact hMz);have oM4:=J9.below (u.set (aA a 0) (vI 1)) I (by rw[E];exact hMz);have bR4:=J6.below (bR.other (aA a 0) (vI 1) (by show a≠w.heap.size;omega)) I (by rw[E];omega);have oR4:=J9.below (J.set (aA a 0) (vI 1)) I (by rw[E];omega);have hB4:=(K.setCell (by show w.heap.size<=a;omega) _).trans (I.mono (by rw[E];omega));have k1:=bM4 1 _ rfl;have f1:=oM4 1;have p:J6 (t.setCell (aA a 1) (vI (n29 (Y2 F)))) a ((A_ (n29 (Y2 F))).c none 0):=bM4.set 1 (vI (n29 (Y2 F))) (by show 1<10;omega);have B:J6 (t.setCell (aA a 1) (vI (n29 (Y2 F)))) w.heap.size zE:=bR4.other _ _ (by show a≠w.heap.size;omega);have D:J9 (t.setCell (aA a 1) (vI (n29 (Y2 F)))) w.heap.size:=oR4.set _ _;have A:Bw w (t.setCell (aA a 1) (vI (n29 (Y2 F)))):=hB4.setCell (by show w.heap.size<=a;omega) _;have O:a<(t.setCell (aA a 1) (vI (n29 (Y2 F)))).heap.size:=L8;have z:w.heap.size<(t.setCell (aA a 1) (vI (n29 (Y2 F)))).heap.size:=L8;have q:O9 (t.setCell (aA a 1) (vI (n29 (Y2 F)))) none (A_ (n29 (Y2 F))).ls:=.inl rfl;have v:(A_ (n29 (Y2 F))).le 1048576:=⟨Y4 _,Y4 _,⟨Y4 _,Y4 _,Y4 _⟩,⟨Y4 _,λ_=>⟨Y4 _,Y4 _⟩⟩,Y4 _⟩;have Q:∀g o,(none:OA)=some (aA g o)->g≠w.heap.size:=λ_ _ h=>by cases h
 clear I E r u bR J K bM4 oM4 bR4 oR4 hB4;generalize n29 (Y2 F)=N at*
 go_wp2_with(refine Cb (by rfl) 171 (.tmp 4) rfl a rfl ((A_ N).c none 0) _ p underlying171 rfl Y0 ?_)
 refine(c152 (A_ N) none 0 _ v q).mono ?_;rintro e U1⟨⟨f,rfl,hT⟩,d⟩;have S:=J6.below p d O;have j:=J6.below B d z;have C:=J9.below D d z;have l:=E5 A d;have U:=Q7 q d;clear p B D q A d;by_cases he:f.data.toList=s.data.toList
 ·have n:=U0 (Us i hT W he);have m:f.toList=s.toList:=by rw[ByteArray.toList_eq,ByteArray.toList_eq];exact he
  have e1:(f.toList==s.toList)=true:=by simpa using m
  clear hT i he
  go_wp2_with(first|refine Cc rfl 171 (.tmp 4) rfl a rfl ((A_ N).c none 0) _ S underlying171 rfl Y0 ?_|refine H8 rfl 171 (.tmp 2) (.tmp 123) rfl w.heap.size 0 rfl ((A_ N).c none 0) rfl (l_ j _ rfl) C (z_.uD _ _ _) Y0 rfl ?_)
  exact sJ (A_ N) none 0 true n (λh=>by cases h) v (gm _ U Q) rfl rfl rfl j l
 have n:=U0 (Dw i hT he);have m:¬f.toList=s.toList:=by rw[ByteArray.toList_eq,ByteArray.toList_eq];exact he
 have e1:(f.toList==s.toList)=false:=by simpa using m
 clear hT i he
 go_wp2_with(refine H8 rfl 171 (.tmp 2) (.tmp 122) rfl w.heap.size 0 rfl zE rfl (l_ j zE rfl) C (by simp[zE,Value.oneCell']) Y0 rfl ?_)
 exact ql n rfl rfl rfl j l
theorem uK(s:BY)(w:World)(h1:1<=s.size)(a:s.size<=16000)(hw:Y1 ((Z8 10 s.data.toList).getD 0 [])=qh):
 Calls prog 108 #[Sb s] w λe w'=>Is4 s.data.toList w' e/\Bw w w':=zA s w h1 a (.inl hw)
theorem AO(s:BY)(w:World)(h1:1<=s.size)(a:s.size<=16000)(hw:Y1 ((Z8 10 s.data.toList).getD 0 [])=Qh):
 Calls prog 108 #[Sb s] w λe w'=>Is4 s.data.toList w' e/\Bw w w':=zA s w h1 a (.inr (.inl hw))
theorem QJ(s:BY)(w:World)(h1:1<=s.size)(a:s.size<=16000)(hw:Y1 ((Z8 10 s.data.toList).getD 0 [])=Je):
 Calls prog 108 #[Sb s] w λe w'=>Is4 s.data.toList w' e/\Bw w w':=zA s w h1 a (.inr (.inr hw))
theorem QO(h:J8 w a ss)(ha:ss=[]->a=none\/∃p,a=some p)(f:Bw w u):Src u (Sa a ss.length c) 1 ss.length (ss.map Sb):=by
 rcases h with rfl|⟨b,off,rfl,hl,h⟩
 ·rcases ha rfl with rfl|⟨p,rfl⟩
  ·exact .inl ⟨⟨c,rfl⟩,rfl,rfl⟩
  exact .inr ⟨p,c,rfl,rfl,λj u e=>by simp at e⟩
 refine .inr ⟨_,c,rfl,J4,λj v e=>?_⟩;obtain⟨d,rfl⟩:=ah.1 e;simp at d;rw[qo,f.cell (by exact hl),h j d];simp[List.getD,d]
theorem Ez(h:J8 w a ss)(b:Bw w u):Src u (Sa a ss.length c) 1 ss.length (ss.map Sb):=QO h (λ_=>by cases a;exact .inl rfl;exact .inr ⟨_,rfl⟩) b
theorem Iz{base:Nat}{v:Value}(h:w.ownsRow base 9 1 v ss.length (ss.map Sb)):∃a c,v=Sa a ss.length c/\J8 w a ss:=by
 obtain⟨a,c,rfl⟩:=H9 h;refine⟨a,c,rfl,?_⟩;by_cases h0:ss=[]
 ·exact .inl h0
 have d:=dm.2 h0;obtain⟨g,c',e,f,_⟩:=Df h (j:=0) (x:=vS (ss[0])) (by simp[d]);injection e with e;subst e;refine .inr ⟨g,0,rfl,f,λi b=>?_⟩;obtain⟨g',c'',e,_,h2⟩:=Df h (j:=i) (x:=vS (ss[i])) (by simp[b]);injection e with e;injection e with e;injection e with e;subst e;rw[Y8,h2];simp[List.getD,b]
theorem c62(sf lo:LB)(sa la:OA)(sc lc:Nat)(w:World)(hl:sf.length+lo.length<=1048576)(hs:J8 w sa sf)(p:J8 w la lo):
 Calls prog 62 #[.agg #[Sa sa sf.length sc,Sa la lo.length lc]] w λe w'=>(∃a c,e=Sf (.slice a (sf++lo).length c)/\J8 w' a (sf++lo))/\Bw w w':=by
 have z:=U0 hs;have y:=U0 p;clear hs p
 go_in
 go_upto_region 1 with fail
 have s:=U0 (I4 w [vL sa sf.length sc,vL la lo.length lc] 37);have n:=U0 (U6 (w:=w) (o:=Sg #[vL sa sf.length sc,vL la lo.length lc] 37));generalize w.alloc (Sg #[vL sa sf.length sc,vL la lo.length lc] 37)=V at*;have hd:Bw V V.drew:=(O4 _ _).drew;have g:Hid (∀u,Bw V u->u.cell? (aW w 0)=some (vL sa sf.length sc)/\u.cell? (aW w 1)=some (vL la lo.length lc)):=λu t=>have h:=s.o.below t s.o.lt;⟨h.cell 0,h.cell 1⟩
 refine mG g hd Y0 λhH=>?_;refine y_ 1 ?_;refine tq 2 hH ?_;refine y_ 4 ?_;refine y_ 5 ?_;refine rq 0 λK b=>?_;go_simp;have j:=U0 (row0 (base:=V.heap.size) V.drew 9 1 rfl A8);have d:Bw V (V.drew.alloc (Sg #[] 9)):=hd.alloc A8 _;refine G9 b (g.o _ d) λhH=>?_;clear b K;refine rq 3 λK b=>?_;refine Ob rfl _ _ 22 rfl V.heap.size 9 1 underlying22 DC U5 _ 0 [] rfl j.o _ sf.length (sf.map Sb) rfl (Ez z.o (E5 n.o d)) (Oe _) O0 d.size ?_;intro v1 y1 m g1 e1;rw[Y8,Y9]at m;have f:=Ib d g1 d.size (λk e=>X4 j.o e);have i:=U0 m;clear m g1 e1 j d;refine G9 b (g.o _ f) λhH=>?_;clear b K;refine rq 6 λK b=>?_;refine Ob rfl _ _ 22 rfl V.heap.size 9 1 underlying22 DC U5 _ sf.length (sf.map Sb) rfl i.o _ lo.length (lo.map Sb) rfl (Ez y.o (E5 n.o f)) (Oe _) O0 f.size ?_;intro v2 y2 l g2 v;have r:=Ib f g2 f.size (λk e=>X4 i.o e);rw[<- Nl,<- Q9]at l;obtain⟨a,c,rfl,q⟩:=Iz l;have x:=U0 q;have A:=U0 (E5 n.o r);clear l g2 v i q;refine G9 b (g.o _ r) λhH=>?_;clear b K;refine sq ?_;refine wdn ?_;go_wp2;go_ret;exact⟨⟨_,_,by rw[Q9];rfl,x.o⟩,A.o⟩
theorem a4t(n:Nat)(w:World)(hn:n<=1048576):
 Calls prog 225 #[Sa none 0 0,Sc Se n] w λe w'=>(∃v,e=Sf v/\w'.ownsRow w.heap.size 9 1 v 0 [])/\Bw w w':=by
 by_cases h0:n=0
 ·subst h0
  go_in
  go_wp2;go_ret;exact⟨⟨_,rfl,M_ _ _ _ _⟩,O4 _ _⟩
 obtain⟨a,f,d,c,b⟩:=info_parts info9;have hr:∀u:World,_:=λu:World=>Lib.run_append_nil_zeros (P:=prog) u 22 3 22 9 a vE .i64 .i64 underlying22 underlying3 f d n O0 (by rw[c];decide) O0 (by rw[b];omega);have h1:(0:Int)<n:=O0
 go_in
 go_wp2_with(refine Lib.wpList_append_run _ rfl _ _ 22 3 rfl _ _ rfl rfl _ _ (hr _) ?_)
 go_ret;refine⟨⟨_,rfl,rfl,.inr ⟨w.heap.size,grownCap w n 0 9,_,rfl,Nat.le_refl _,heap_alloc_new w _,Nat.zero_le _,grownCap_le_maxLen w n 0 9 (by unfold maxLen;omega),?_,J4⟩⟩,U6.drew⟩;have:=grownCap_ge w n 0 9;rw[Array.size_append,size_zeroCells,size_zeroCells];show n*1+(grownCap w n 0 9-n)*1=_;omega
theorem a5l(sf lo:LB)(sa la:OA)(sc lc B:Nat)(w:World)(hl:sf.length+lo.length<=1048576)(hB:Cl w B 22 [Sa sa sf.length sc,Sa la lo.length lc])(hs:J8 w sa sf)(q:J8 w la lo):
 Calls prog 166 #[Sa (some ⟨B,0,none⟩) 2 2] w λe w'=>(∃v,e=Sf v/\w'.ownsRow w.heap.size 9 1 v (sf++lo).length ((sf++lo).map Sb))/\Bw w w':=by
 have z:=U0 hs;have x:=U0 q;have p:=U0 hB;have l:=hB.cell 0;have j:=hB.cell 1;simp only[gz]at l j
 go_in
 go_wp2;go_loop[3,11] (λs i=>(i=Sc Se 0/\s=Sc Se 0)\/(i=Sc Se 1/\s=Sc Se sf.length)\/(i=Sc Se 2/\s=Sc Se ((sf.length:Int)+lo.length))) (λ_ i=>2-(RowKit.intOf i).toNat);exact .inl ⟨rfl,rfl⟩;rcases hrel with⟨rfl,rfl⟩|⟨rfl,rfl⟩|⟨rfl,rfl⟩
 ·go_wp2
  go_round
  exact .inr (.inl ⟨rfl,rfl⟩);simp[RowKit.intOf]
 ·go_wp2
  go_round
  exact .inr (.inr ⟨rfl,by go_num⟩);simp[RowKit.intOf]
 go_wp2_with fail
 have o:=a4t (sf.length+lo.length) w hl;rw[KJ]at o;refine o.mono ?_;rintro e w1⟨⟨v,rfl,hv⟩,r⟩;go_wp2;go_loopw[6,27] (λs i wr=>((i=Sc Se 0/\wr.ownsRow w.heap.size 9 1 s ([]:List ByteArray).length (([]:List ByteArray).map Sb))\/(i=Sc Se 1/\wr.ownsRow w.heap.size 9 1 s sf.length (sf.map Sb))\/(i=Sc Se 2/\wr.ownsRow w.heap.size 9 1 s (sf++lo).length ((sf++lo).map Sb)))/\Below w.heap.size w wr) (λ_ i _=>2-(RowKit.intOf i).toNat);exact⟨.inl ⟨rfl,hv⟩,r⟩;obtain⟨hrel,a⟩:=hrel;rcases hrel with⟨rfl,hr⟩|⟨rfl,hr⟩|⟨rfl,hr⟩
 ·replace l:=(a.cell (by exact p.o.lt)).trans l
  have b:=U0 hr;have m:=U0 (Ez (c:=sc) z a)
  go_wp2_with(refine Lc rfl _ _ 22 rfl w.heap.size 9 1 underlying22 DC U5 _ ([]:LB).length (([]:LB).map Sb) rfl b.o _ sf.length (sf.map Sb) rfl m.o (Oe _) (by first|omega|(simp;omega)) a.size ?_;intro v' y d f t)
  have g:=U0 (Ib a f a.size (λk e=>X4 b e));have n:=U0 d;go_wp2;go_roundw;exact⟨.inr (.inl ⟨rfl,by have h:=n.o;simpa using h⟩),g.o⟩;simp[RowKit.intOf]
 ·replace j:=(a.cell (by exact p.o.lt)).trans j
  have b:=U0 hr;have m:=U0 (Ez (c:=lc) x a)
  go_wp2_with(refine Lc rfl _ _ 22 rfl w.heap.size 9 1 underlying22 DC U5 _ (sf).length ((sf).map Sb) rfl b.o _ lo.length (lo.map Sb) rfl m.o (Oe _) (by first|omega|(simp;omega)) a.size ?_;intro v' y d f t)
  have g:=U0 (Ib a f a.size (λk e=>X4 b e));have n:=U0 d;go_wp2;go_roundw;exact⟨.inr (.inr ⟨rfl,by have h:=n.o;rw[<- Nl,<- Q9]at h;exact h⟩),g.o⟩;simp[RowKit.intOf]
 have u:=U0 hr;go_wp2;go_ret;exact⟨⟨_,rfl,u⟩,a⟩
theorem a6s(sf lo:LB)(sa la:OA)(sc lc:Nat)(w:World)(hl:sf.length+lo.length<=1048576)(hs:J8 w sa sf)(d:J8 w la lo):
 Calls prog 122 #[.agg #[Sa sa sf.length sc,Sa la lo.length lc]] w λe w'=>(∃a c,e=Sf (.slice a (sf++lo).length c)/\J8 w' a (sf++lo))/\Bw w w':=by
 have b:Bw w ((w.alloc (Sg #[vL sa sf.length sc,vL la lo.length lc] 37)).alloc (Sg #[vL sa sf.length sc,vL la lo.length lc] 22)):=U6.alloc J4 _;have hc:=a5l sf lo sa la sc lc (w.heap.size+1) _ hl (by have h:=I4 (w.alloc (Sg #[vL sa sf.length sc,vL la lo.length lc] 37)) [vL sa sf.length sc,vL la lo.length lc] 22;simpa using h) (G6 hs b) (G6 d b);have k:=U0 b
 go_in
 go_wp2_with fail
 refine hc.mono ?_;rintro e w1⟨⟨v,rfl,i⟩,f⟩;obtain⟨a,c,rfl,g⟩:=Iz i;have j:=U0 g;have l:=U0 (E5 k f);go_wp2;go_ret;exact⟨⟨_,_,by rw[Q9];rfl,j.o⟩,l.o⟩
theorem JM(v:Value)(n:Nat)(xs:List Value)(w:World)(hn:n<=1048576)(h1:∀u∈xs,u.oneCell'=true)(hs:∀u,Bw w u->Src u v 1 n xs):
 Calls prog 179 #[v] w λe w'=>(∃v',e=Sf v'/\w'.ownsRow w.heap.size 9 1 v' n xs)/\Bw w w':=by
 rcases hs w (O4 _ _) with⟨⟨c,rfl⟩,rfl,rfl⟩|⟨f,c,rfl,_,_⟩
 ·have d:∀u,(binOp .eql 22 (vL none 0 c) vN).run prog u=.ok (.bool true) u:=λu=>Y0
  go_in
  go_wp2;go_ret;exact⟨⟨_,rfl,M_ _ _ _ _⟩,O4 _ _⟩
 have d:∀u,(binOp .eql 22 (vL (some f) n c) vN).run prog u=.ok (.bool false) u:=λu=>Y0;have g:=U0 hs;have a:=U0 (row0 (base:=w.heap.size) w 9 1 rfl A8);clear hs
 go_in
 go_wp2_with(at_builtin;refine Lc rfl _ _ 22 rfl w.heap.size 9 1 underlying22 DC U5 _ 0 [] rfl a.o _ n xs rfl (g.o _ U6) h1 O0 J4 ?_;intro v1 y1 b g1 _;rw[Y8,Y9]at b;have h:=Ib U6 g1 J4 (λk e=>X4 a.o e))
 go_ret;exact⟨⟨_,rfl,b⟩,h⟩
theorem a0i:Inf prog 3 1:=Jc Y0
theorem a4a(v:Value)(n:Nat)(xs:List Value)(w:World)(hn:n<=1048576)(h1:∀u∈xs,u.oneCell'=true)(hs:∀u,Bw w u->Src u v 1 n xs):
 Calls prog 182 #[v] w λe w'=>(∃v',e=Sf v'/\w'.ownsRow w.heap.size 3 1 v' n xs)/\Bw w w':=by
 rcases hs w (O4 _ _) with⟨⟨c,rfl⟩,rfl,rfl⟩|⟨f,c,rfl,_,_⟩
 ·have d:∀u,(binOp .eql 31 (vL none 0 c) vN).run prog u=.ok (.bool true) u:=λu=>Y0
  go_in
  go_wp2;go_ret;exact⟨⟨_,rfl,M_ _ _ _ _⟩,O4 _ _⟩
 have d:∀u,(binOp .eql 31 (vL (some f) n c) vN).run prog u=.ok (.bool false) u:=λu=>Y0;have g:=U0 hs;have a:=U0 (row0 (base:=w.heap.size) w 3 1 rfl A8);clear hs
 go_in
 go_wp2_with(at_builtin;refine Lc rfl _ _ 31 rfl w.heap.size 3 1 underlying31 a0i U5 _ 0 [] rfl a.o _ n xs rfl (g.o _ U6) h1 O0 J4 ?_;intro v1 y1 b g1 _;rw[Y8,Y9]at b;have h:=Ib U6 g1 J4 (λk e=>X4 a.o e))
 go_ret;exact⟨⟨_,rfl,b⟩,h⟩
theorem a2P(v:Value)(n:Nat)(xs:List Value)(w:World)(hn:n<=1048576)(h1:∀u∈xs,u.oneCell'=true)(hs:∀u,Bw w u->Src u v 3 n xs):
 Calls prog 185 #[v] w λe w'=>(∃v',e=Sf v'/\w'.ownsRow w.heap.size 124 3 v' n xs)/\Bw w w':=by
 rcases hs w (O4 _ _) with⟨⟨c,rfl⟩,rfl,rfl⟩|⟨f,c,rfl,_,_⟩
 ·have d:∀u,(binOp .eql 45 (vL none 0 c) vN).run prog u=.ok (.bool true) u:=λu=>Y0
  go_in
  go_wp2;go_ret;exact⟨⟨_,rfl,M_ _ _ _ _⟩,O4 _ _⟩
 have d:∀u,(binOp .eql 45 (vL (some f) n c) vN).run prog u=.ok (.bool false) u:=λu=>Y0;have g:=U0 hs;have a:=U0 (row0 (base:=w.heap.size) w 124 3 rfl A8);clear hs
 go_in
 go_wp2_with(at_builtin;refine Lc rfl _ _ 45 rfl w.heap.size 124 3 underlying45 (Jc Y0) U5 _ 0 [] rfl a.o _ n xs rfl (g.o _ U6) h1 O0 J4 ?_;intro v1 y1 b g1 _;rw[Y8,Y9]at b;have h:=Ib U6 g1 J4 (λk e=>X4 a.o e))
 go_ret;exact⟨⟨_,rfl,b⟩,h⟩
theorem a3W(v:Value)(n:Nat)(xs:List Value)(w:World)(hn:n<=1048576)(h1:∀u∈xs,u.oneCell'=true)(hs:∀u,Bw w u->Src u v 4 n xs):
 Calls prog 184 #[v] w λe w'=>(∃v',e=Sf v'/\w'.ownsRow w.heap.size 213 4 v' n xs)/\Bw w w':=by
 rcases hs w (O4 _ _) with⟨⟨c,rfl⟩,rfl,rfl⟩|⟨f,c,rfl,_,_⟩
 ·have d:∀u,(binOp .eql 116 (vL none 0 c) vN).run prog u=.ok (.bool true) u:=λu=>Y0
  go_in
  go_wp2;go_ret;exact⟨⟨_,rfl,M_ _ _ _ _⟩,O4 _ _⟩
 have d:∀u,(binOp .eql 116 (vL (some f) n c) vN).run prog u=.ok (.bool false) u:=λu=>Y0;have g:=U0 hs;have a:=U0 (row0 (base:=w.heap.size) w 213 4 rfl A8);clear hs
 go_in
 go_wp2_with(at_builtin;refine Lc rfl _ _ 116 rfl w.heap.size 213 4 underlying116 (Jc Y0) U5 _ 0 [] rfl a.o _ n xs rfl (g.o _ U6) h1 O0 J4 ?_;intro v1 y1 b g1 _;rw[Y8,Y9]at b;have h:=Ib U6 g1 J4 (λk e=>X4 a.o e))
 go_ret;exact⟨⟨_,rfl,b⟩,h⟩
theorem a3z(v:Value)(n:Nat)(xs:List Value)(w:World)(hn:n<=1048576)(h1:∀u∈xs,u.oneCell'=true)(hs:∀u,Bw w u->Src u v 6 n xs):
 Calls prog 183 #[v] w λe w'=>(∃v',e=Sf v'/\w'.ownsRow w.heap.size 119 6 v' n xs)/\Bw w w':=by
 rcases hs w (O4 _ _) with⟨⟨c,rfl⟩,rfl,rfl⟩|⟨f,c,rfl,_,_⟩
 ·have d:∀u,(binOp .eql 44 (vL none 0 c) vN).run prog u=.ok (.bool true) u:=λu=>Y0
  go_in
  go_wp2;go_ret;exact⟨⟨_,rfl,M_ _ _ _ _⟩,O4 _ _⟩
 have d:∀u,(binOp .eql 44 (vL (some f) n c) vN).run prog u=.ok (.bool false) u:=λu=>Y0;have g:=U0 hs;have a:=U0 (row0 (base:=w.heap.size) w 119 6 rfl A8);clear hs
 go_in
 go_wp2_with(at_builtin;refine Lc rfl _ _ 44 rfl w.heap.size 119 6 underlying44 (Jc Y0) U5 _ 0 [] rfl a.o _ n xs rfl (g.o _ U6) h1 O0 J4 ?_;intro v1 y1 b g1 _;rw[Y8,Y9]at b;have h:=Ib U6 g1 J4 (λk e=>X4 a.o e))
 go_ret;exact⟨⟨_,rfl,b⟩,h⟩
theorem a3M(v:Value)(n:Nat)(xs:List Value)(w:World)(hn:n<=1048576)(h1:∀u∈xs,u.oneCell'=true)(hs:∀u,Bw w u->Src u v 2 n xs):
 Calls prog 244 #[v] w λe w'=>(∃v',e=Sf v'/\w'.ownsRow w.heap.size 169 2 v' n xs)/\Bw w w':=by
 rcases hs w (O4 _ _) with⟨⟨c,rfl⟩,rfl,rfl⟩|⟨f,c,rfl,_,_⟩
 ·have d:∀u,(binOp .eql 38 (vL none 0 c) vN).run prog u=.ok (.bool true) u:=λu=>Y0
  go_in
  go_wp2;go_ret;exact⟨⟨_,rfl,M_ _ _ _ _⟩,O4 _ _⟩
 have d:∀u,(binOp .eql 38 (vL (some f) n c) vN).run prog u=.ok (.bool false) u:=λu=>Y0;have g:=U0 hs;have a:=U0 (row0 (base:=w.heap.size) w 169 2 rfl A8);clear hs
 go_in
 go_wp2_with(at_builtin;refine Lc rfl _ _ 38 rfl w.heap.size 169 2 underlying38 (Jc Y0) U5 _ 0 [] rfl a.o _ n xs rfl (g.o _ U6) h1 O0 J4 ?_;intro v1 y1 b g1 _;rw[Y8,Y9]at b;have h:=Ib U6 g1 J4 (λk e=>X4 a.o e))
 go_ret;exact⟨⟨_,rfl,b⟩,h⟩
theorem a3L(v:Value)(n:Nat)(xs:List Value)(w:World)(hn:n<=1048576)(h1:∀u∈xs,u.oneCell'=true)(hs:∀u,Bw w u->Src u v 3 n xs):
 Calls prog 245 #[v] w λe w'=>(∃v',e=Sf v'/\w'.ownsRow w.heap.size 179 3 v' n xs)/\Bw w w':=by
 rcases hs w (O4 _ _) with⟨⟨c,rfl⟩,rfl,rfl⟩|⟨f,c,rfl,_,_⟩
 ·have d:∀u,(binOp .eql 41 (vL none 0 c) vN).run prog u=.ok (.bool true) u:=λu=>Y0
  go_in
  go_wp2;go_ret;exact⟨⟨_,rfl,M_ _ _ _ _⟩,O4 _ _⟩
 have d:∀u,(binOp .eql 41 (vL (some f) n c) vN).run prog u=.ok (.bool false) u:=λu=>Y0;have g:=U0 hs;have a:=U0 (row0 (base:=w.heap.size) w 179 3 rfl A8);clear hs
 go_in
 go_wp2_with(at_builtin;refine Lc rfl _ _ 41 rfl w.heap.size 179 3 underlying41 xQ U5 _ 0 [] rfl a.o _ n xs rfl (g.o _ U6) h1 O0 J4 ?_;intro v1 y1 b g1 _;rw[Y8,Y9]at b;have h:=Ib U6 g1 J4 (λk e=>X4 a.o e))
 go_ret;exact⟨⟨_,rfl,b⟩,h⟩
theorem DJ(w:World):
 Calls prog 108 #[Sb ⟨#[]⟩] w λe w'=>Is4 [] w' e/\Bw w w':=by
 have u:Bw w ((w.alloc (Sg zE.toArray 171)).alloc (Sg zE.toArray 171)):=U6.alloc J4 _
 go_in
 go_wp2_with fail
 refine(c146 ⟨#[]⟩ 10 _ U5).mono ?_;rintro e w1⟨⟨g2,cp,rfl,r,c⟩,t⟩;have p:((w.alloc (Sg zE.toArray 171)).alloc (Sg zE.toArray 171)).heap.size=w.heap.size+2:=J4;have b:Below (w.heap.size+2) ((w.alloc (Sg zE.toArray 171)).alloc (Sg zE.toArray 171)) w1:=t.mono J4;have D:w.heap.size+2<=g2:=by have h:=r;simp at h;omega
 have A:w.heap.size+2<=w1.heap.size:=by have h:=b.size;rw[p]at h;exact h
 have v:=((X9 w zE 171).below U6 J4).below b O0;have n:=((og w zE.toArray 171).below U6 J4).below b O0;have x:=J6.below (by have h:=X9 (w.alloc (Sg zE.toArray 171)) zE 171;simp at h;exact h) b O0;have o:=J9.below (by have h:=og (w.alloc (Sg zE.toArray 171)) zE.toArray 171;simp at h;exact h) b O0;have g:=u.trans (b.mono O0);have f:=Zn 10 ([]:List UInt8);have l:=zi 10 ([]:List UInt8);clear t r p b;obtain⟨d,m⟩:∃d,d=Z8 10 ([]:List UInt8):=⟨_,rfl⟩;rw[<- m]at c f l ⊢;have N:=U0 m.symm;have P:Hid (∀k,(d.getD k []).length<=16000):=λk=>X7 (l k) J4;obtain⟨F,hF⟩:∃F,F=d.getD 0 []:=⟨_,rfl⟩;have O:=U0 hF.symm;have hFl:F.length<=16000:=by rw[hF];exact P.o 0
 have E:=f.1;have a7u:d.length<=16001:=by have:=f.2;simp at this;omega
 have K:w1.cell? (aA g2 0)=some (vS (U3 F)):=by rw[hF];exact c.2 0 E
 have C:=c.1;clear hF m l f
 go_wp2_with fail
 refine(Zv F _ O0 1 O0 O0).mono ?_;rintro e i⟨⟨g3,cp3,rfl,B,j⟩,a⟩;have z:=a.size;have bR:=J6.below v a O0;have y:=J9.below n a O0;have bM:=J6.below x a O0;have oM:=J9.below o a O0;have hL3:=U0 (Qg c a);have I:=E5 g a;have J:i.cell? (aA g3 0)=some (vS (U3 (Y1 F))):=j.2 0 (by simp[Q_]);have a7k:=j.1;have hrs:=X8 F;have q:U3 (g_ F 1)=U3 (Y2 F):=rfl;rw[q];clear q a v n x o c g j K u;have H:F=[]:=by rw[<- O.o,<- N.o];rfl
 subst H;have s:U3 (Y1 [])=⟨#[]⟩:=rfl;rw[s]at J;clear s;have hMz:w.heap.size+1<i.heap.size:=O0;have hRB:w.heap.size<w.heap.size+1:=O0;have a7l:w.heap.size+1<g3:=O0;have a7v:w.heap.size+1<g2:=O0;have a6Z:g2<i.heap.size:=O0;clear B C D A z;generalize w.heap.size+1=Bm at*;have L:=U0 (rM (.inl rfl));have g:=I
 go_wp2_with(refine H8 rfl 171 (.tmp 2) (.tmp 122) rfl w.heap.size 0 rfl zE rfl (l_ bR zE rfl) y (by simp[zE,Value.oneCell']) Y0 rfl ?_)
 exact ql L.o rfl rfl rfl bR g
theorem a5m(s:BY)(w:World)(hs:s.size<=1048576):
 Calls prog 108 #[Sb s] w λe w'=>Is4 s.data.toList w' e/\Bw w w':=by
 have hsl:s.data.toList.length=s.size:=J4;by_cases h0:1<=s.size
 ·by_cases a:s.size<=16000
  ·by_cases c:Y1 ((Z8 10 s.data.toList).getD 0 [])=Ul
   ·exact vU s w h0 a c
   by_cases h1:Y1 ((Z8 10 s.data.toList).getD 0 [])=Je
   ·exact QJ s w h0 a h1
   by_cases h2:Y1 ((Z8 10 s.data.toList).getD 0 [])=Si
   ·exact yO s w h0 a h2
   by_cases d:Y1 ((Z8 10 s.data.toList).getD 0 [])=Qh
   ·exact AO s w h0 a d
   by_cases b:Y1 ((Z8 10 s.data.toList).getD 0 [])=qh
   ·exact uK s w h0 a b
   exact sO s w h0 a ⟨c,h1,h2,d,b⟩
  have k:Hid (RES s.data.toList Fj false):=rM (.inr O0);have j:Bw w (w.alloc (Sg zE.toArray 171)):=U6;have hA:=X9 w zE 171;have i:=og w zE.toArray 171;have g:=l_ hA zE rfl;have h2:decide (16000<(s.size:Int))=true:=L8
  go_in
  go_wp2_with(refine H8 rfl 171 (.tmp 2) (.tmp 18) rfl w.heap.size 0 rfl zE rfl g i (by simp[zE,Value.oneCell']) Y0 rfl ?_)
  exact ql k.o rfl rfl rfl hA j
 have f:s=⟨#[]⟩:=by
  apply jg;have:s.data.size=0:=by
   have h:s.size=0:=O0;exact h
  exact Array.eq_empty_of_size_eq_zero this
 subst f;exact DJ w
theorem yF{l:List UInt8}{x y:z_}{a b:Bool}(hx:RES l x a)(c:RE l y b)(e:a=false->x=Fj)(d:b=false->y=Fj):a=b/\x=y:=by
 cases a<;>cases b
 ·exact⟨rfl,by rw[e rfl,d rfl]⟩
 ·obtain⟨h1,h2⟩:=c.1 rfl;exact absurd h2 (hx.2 rfl y h1)
 ·obtain⟨h1,h2,_⟩:=hx.1 rfl;exact absurd h2 (c.2 rfl x h1)
 obtain⟨_,_,f⟩:=hx.1 rfl;obtain⟨h1,h2⟩:=c.1 rfl;exact⟨rfl,f y h1 h2⟩
theorem a3k(a b:BY)(w:World):
 Calls prog 140 #[.agg #[Sb a,Sb b],.agg #[Sb a,Sb b]] w λe w'=>e=Sf (.bool true)/\Bw w w':=by
 go_in
 go_wp2;go_ret;exact⟨rfl,U6.alloc J4 _⟩
structure MS where
 ep:Int
 fs:List T.F2
 s:St
noncomputable def jP(fs:List T.F2)(x:T.F2):Option (List T.F2):=@dite _ (∃gs,T.Wq fs x 0 gs) (Classical.propDecidable _) (λh=>some h.choose) (λ_=>none)
noncomputable def drF(fs:List T.F2)(n:BY):Option (List T.F2):=@dite _ (∃gs,T.qj fs n 0 gs) (Classical.propDecidable _) (λh=>some h.choose) (λ_=>none)
section
variable{fs gs:List T.F2}{x:T.F2}{n:BY}{c:Int}
theorem uV(h:T.Wq fs x 0 gs):jP fs x=some gs:=by
 have a:∃gs,T.Wq fs x 0 gs:=⟨gs,h⟩;unfold jP;rw[dif_pos a];exact G7 some (T.zI h a.choose_spec).2
theorem xR(h:T.Wq fs x c gs)(hc:c≠0):jP fs x=none:=by
 unfold jP;exact dif_neg (λ⟨gs',k⟩=>hc (T.zI k h).1)
theorem a0s(h:T.qj fs n 0 gs):drF fs n=some gs:=by
 have a:∃gs,T.qj fs n 0 gs:=⟨gs,h⟩;unfold drF;rw[dif_pos a];exact G7 some (T.fD h a.choose_spec).2
theorem a0r(h:T.qj fs n c gs)(hc:c≠0):drF fs n=none:=by
 unfold drF;exact dif_neg (λ⟨gs',k⟩=>hc (T.fD k h).1)
end
noncomputable def dn(m:MS)(x:z_):Option MS:=
 if x.kd=1 then(if x.ep=m.ep+1 then some ⟨x.ep,m.fs,m.s⟩ else none)
 else if x.kd=2 then(jP m.fs ⟨x.fn,x.ft⟩).map λgs=>⟨m.ep,gs,m.s⟩
 else if x.kd=3 then(drF m.fs x.fn).map λgs=>⟨m.ep,gs,m.s⟩
 else if x.kd=4 then(if (V_ m.s x.km x.ls x.cd x.tx).2=0 then some ⟨m.ep,m.fs,(V_ m.s x.km x.ls x.cd x.tx).1⟩ else none)
 else some ⟨m.ep,m.fs,⟨m.s.wd,[],[]⟩⟩
noncomputable def rn(f:Nat->z_)(m0:MS):Nat->Option MS
 | 0=>some m0
 | k+1=>(rn f m0 k).bind λm=>dn m (f k)
theorem Cm{f g:Nat->z_}{m0:MS}:∀(k:Nat),(∀i,i<k->f i=g i)->rn f m0 k=rn g m0 k
 | 0,_=>rfl
 | k+1,h=>by
  unfold rn;rw[Cm k (λi hi=>h i O0),h k O0]
theorem WM{f:Nat->z_}{m0 m:MS}{k n:Nat}(hk:k<=n)(h:rn f m0 n=some m):∃m',rn f m0 k=some m':=by
 induction n generalizing m with
 | zero=>
  obtain rfl:k=0:=O0;exact⟨m,h⟩
 | succ n ih=>
  by_cases a:k=n+1
  ·exact⟨m,a▸h⟩
  unfold rn at h
  cases hq:rn f m0 n with
  | none=>rw[hq]at h;cases h
  | some m'=>exact ih O0 hq
def eL(es:LB)(i:Nat):List UInt8:=(es.getD i ByteArray.empty).data.toList
def KI(R:List UInt8->z_->Bool->Prop)(es:LB)(m0:MS)(o:Option MS):Prop:=
 (∃f m,(∀i,i<es.length->R (eL es i) (f i) true)/\rn f m0 es.length=some m/\o=some m)\/
 (o=none/\∃k f m,k<es.length/\(∀i,i<k->R (eL es i) (f i) true)/\rn f m0 k=some m/\(R (eL es k) Fj false\/(R (eL es k) (f k) true/\dn m (f k)=none)))
theorem SV{l:List UInt8}{x y:z_}(h:RES l x true)(k:RE l y true):x=y:=(yF h k (λc=>by cases c) (λc=>by cases c)).2
theorem a1Z{es:LB}{m0:MS}{o n:Option MS}(h:KI RES es m0 o)(r:KI RE es m0 n):o=n:=by
 rcases h with⟨f,m,hf,hm,rfl⟩|⟨rfl,k,f,m,hk,hf,hm,hx⟩
 ·rcases r with⟨g,m',b,l,rfl⟩|⟨rfl,k',g,m',p,b,l,j⟩
  ·rw[Cm es.length (λi d=>SV (hf i d) (b i d)),l]at hm;exact hm.symm
  exfalso;have e:=Cm (m0:=m0) k' (λi d=>SV (hf i O0) (b i d));rw[l]at e;obtain⟨q,a⟩:=WM (k:=k'+1) O0 hm;unfold rn at a;rw[e]at a;rcases j with j|⟨j,hd⟩
  ·have:=(yF (hf k' p) j (λc=>by cases c) (λ_=>rfl)).1;cases this
  rw[SV (hf k' p) j]at a;rw[show((some m').bind λm=>dn m (g k'))=dn m' (g k') from rfl,hd]at a;cases a
 rcases r with⟨g,m',b,l,rfl⟩|⟨rfl,_⟩;rotate_left
 ·rfl
 exfalso;have e:=Cm (m0:=m0) k (λi d=>SV (hf i d) (b i O0));rw[hm]at e;obtain⟨q,a⟩:=WM (k:=k+1) O0 l;unfold rn at a;rw[<- e]at a;rcases hx with hx|⟨hx,hd⟩
 ·have:=(yF hx (b k hk) (λ_=>rfl) (λc=>by cases c)).1;cases this
 rw[<- SV hx (b k hk)]at a;rw[show((some m).bind λq=>dn q (f k))=dn m (f k) from rfl,hd]at a;cases a
theorem SS{W:Int}{ts:LB}(h:Ol W ts){k:Nat}(hk:k<ts.length)(h0:k≠0):Op.bytesLess (Y6 (ts.getD (k-1) ByteArray.empty) W).toList (Y6 (ts.getD k ByteArray.empty) W).toList=true:=by
 have a:=iF.1 h (k-1) k L8 (by simpa using hk) O0;simp only[qx]at a;have e1:ts.getD (k-1) ByteArray.empty=ts[k-1]:=by simp[List.getD,show k-1<ts.length by omega]
 have b:ts.getD k ByteArray.empty=ts[k]:=by simp[List.getD,hk]
 rw[BH,e1,b];unfold gT Bj at a;rw[<- ByteArray.toList_eq,<- ByteArray.toList_eq]at a;exact a
theorem a2e{ls:List L4}(h:∀x∈ls,Ri x){r:Int×ByteArray}(hr:r∈F_ ls):vr r.1 r.2.data.toList=true:=by
 induction ls with
 | nil=>cases hr
 | cons x l ih=>
  unfold F_ at hr;split at hr
  ·exact ih (λy a=>h y (Ug _ a)) hr
  rcases qf.1 hr with rfl|hr
  ·rename_i b;rcases(h x (Gt ..)).2 with⟨k,_⟩|⟨_,k⟩
   ·exact absurd k b
   exact k
  exact ih (λy a=>h y (Ug _ a)) hr
theorem AZ{ls:List L4}(h:Ig ls):∀x∈ls,Ri x:=λx hx=>by
 obtain⟨i,a,rfl⟩:=Qe hx;have:=h.2 i a
 rwa[show ls.getD i K_=ls[i] from by simp[List.getD,a]]at this
theorem dM{s:St}{m:M3}{ls:List L4}{c:Int}{t:BY}(h:Lh s)(hk:v_ s.wd s.ts s.rs m ls c t=0):Lh ⟨s.wd,(I8 s.wd (Xm ls c t) (s.ts,true)).1,Zg s.rs (Ui s.wd m ls c t)⟩:=by
 have hr:Fg m ls c t:=by
  unfold v_ at hk;split at hk
  ·cases hk
  rename_i f;exact EJ.1 f
 have hl:(I8 s.wd (Xm ls c t) (s.ts,true)).1.length<=300/\(Zg s.rs (Ui s.wd m ls c t)).length<=150:=by
  unfold v_ at hk;rw[U7 (λk=>k hr)]at hk;split at hk
  ·cases hk
  split at hk
  ·cases hk
  rename_i f;omega
 refine⟨h.1,⟨hl.1,λk hk=>⟨?_,?_⟩⟩,hl.2,λi a=>?_⟩
 ·have hm:=Wx hk;have hm:=jC _ _ hm;dsimp only at hm ⊢;generalize (I8 s.wd (Xm ls c t) (s.ts,true)).1.getD k ByteArray.empty=q at hm ⊢;rcases hm with hm|hm
  ·obtain⟨r,g,rfl⟩:=Rh.1 hm;rcases Ph.1 g with h1|h1
   ·exact⟨_,_,VE (a2e (AZ hr.2.1) h1)⟩
   obtain rfl:=Zj.1 h1;exact⟨_,_,VE hr.2.2⟩
  obtain⟨i,a,e⟩:=Qe hm;have:=(h.2.1.2 i a).1
  rwa[show s.ts.getD i ByteArray.empty=s.ts[i] from by simp[List.getD,a],e]at this
 ·by_cases h0:k=0
  ·exact .inl h0
  exact .inr (SS (bC (Vr h)) hk h0)
 have key:∀x∈Zg s.rs (Ui s.wd m ls c t),UG s.wd x:=λx hx=>by
  have:x∈s.rs\/x=Ui s.wd m ls c t:=by
   unfold Zg at hx;split at hx
   ·exact .inl hx
   simpa using hx
  rcases this with hx|rfl
  ·obtain⟨i,a,rfl⟩:=Qe hx;have:=h.2.2.2 i a
   rwa[show s.rs.getD i d_=s.rs[i] from by simp[List.getD,a]]at this
  have hz:∀b:BY,((Y6 b s.wd).size:Int)=s.wd:=λb=>by rw[Es h.1];have:=h.1;omega
  refine⟨⟨YG hr.1,hz _,by show(ls.map _).length<=15;rw[Ve];exact hr.2.1.1⟩,λi a=>?_⟩;have d:i<ls.length:=by simpa[Ui]using a
  have e:(Ui s.wd m ls c t).gs.getD i Jh=Hz s.wd (ls.getD i K_):=by simp[Ui,List.getD,d]
  rw[e];exact⟨(hr.2.1.2 i d).1,hz _⟩
 have:=key _ (dh a)
 rwa[show(Zg s.rs (Ui s.wd m ls c t)).getD i d_=(Zg s.rs (Ui s.wd m ls c t))[i] from by have a:i<(Zg s.rs (Ui s.wd m ls c t)).length:=a;simp[List.getD,a]]
end Go.Proofs.YtdgneicbmalnpaaGreatDoor
namespace Go.Proofs.YtdgneicbmalnpaaGreatDoor
open Proofs.Tryz Go.RowKit
variable{w w':World}{b0:Nat}{m:MS}{vs:List Value}{fs gs:List T.F2}
structure MOk(m:MS):Prop where
 e0:0<=m.ep
 e1:m.ep<=200
 fl:m.fs.length<=40
 fz:∀i,(m.fs.getD i T.o9).le 4000
 st:Lh m.s
structure uz(w:World)(b0:Nat)(m:MS)(vs:List Value):Prop where
 ok:MOk m
 ex:∃fv tv rv,vs=[Sc Se 0,Sc Se m.ep,fv,Sc Se m.s.wd,tv,rv]/\w.ownsRow b0 169 2 fv m.fs.length (T.J3 m.fs)/\W_ w b0 m.s.ts m.s.rs tv rv
theorem uz.keep(h:uz w b0 m vs)(hk:∀q t,oh w q t->t≠111->w'.heap[q]?=w.heap[q]?):uz w' b0 m vs:=by
 obtain⟨fv,tv,rv,h1,h2,b⟩:=h.ex;exact⟨h.ok,fv,tv,rv,h1,Z4 h2 (λq a=>hk q 169 (X6 h2 a) U5),su b (λq t hT ht=>hk q t hT (by rcases ht with rfl|rfl|rfl<;>decide))⟩
theorem uz.below(h:uz w b0 m vs)(a:Bw w w'):uz w' b0 m vs:=h.keep (λq t hT _=>a.block q (Ld hT))
theorem Ur{fv:Value}(h:w.ownsRow b0 169 2 fv fs.length (T.J3 fs)):∃fa fc,fv=Sa fa fs.length fc/\T.P6 w fa fs:=T.Um.form h
theorem IE{x:T.F2}(h:T.Wq fs x 0 gs)(hf:∀i,(fs.getD i T.o9).le 4000):gs.length<=40/\∀i,(gs.getD i T.o9).le 4000:=by
 refine⟨T.OT h,?_⟩;rcases h with⟨_,c,_⟩|⟨_,_,c,_⟩|⟨_,_,_,c,_⟩|⟨ht,hx,_,_,k,hk,rfl⟩
 ·exact absurd c U5
 ·exact absurd c U5
 ·exact absurd c U5
 have d:x.le 4000:=by
  unfold T.Qa Y5 at hx;simp only[Fa,Pe]at hx;have h1:=hx.1.1;have h2:=hx.2;simp only[Uy]at h1;exact⟨by show x.nm.data.size<=_;omega,O0⟩
 have f:∀y∈T.ins (T.without fs x.nm) k x,y.le 4000:=λy b=>by
  unfold T.ins at b;have hw:∀z∈T.without fs x.nm,z.le 4000:=λz hz=>by
   obtain⟨i,a,e⟩:=T.getD_mem (Ep.1 hz).1;rw[<- e];exact hf i
  rcases Ph.1 b with h|h
  ·exact hw y (IA h)
  rcases qf.1 h with rfl|h
  ·exact d
  exact hw y (yJ h)
 intro i;by_cases a:i<(T.ins (T.without fs x.nm) k x).length
 ·rw[show(T.ins (T.without fs x.nm) k x).getD i T.o9=(T.ins (T.without fs x.nm) k x)[i] from by simp[List.getD,a]];exact f _ (dh a)
 rw[show(T.ins (T.without fs x.nm) k x).getD i T.o9=T.o9 from by simp[List.getD,Eb (Aq a)]];exact⟨U5,U5⟩
theorem lC{n:BY}(h:T.qj fs n 0 gs)(hf:∀i,(fs.getD i T.o9).le 4000):gs.length<=40/\∀i,(gs.getD i T.o9).le 4000:=by
 refine⟨T.VN h,?_⟩;rcases h with⟨_,c,_⟩|⟨_,_,c,_⟩|⟨ht,_,_,rfl⟩
 ·exact absurd c U5
 ·exact absurd c U5
 intro i;by_cases a:i<(T.without fs n).length
 ·rw[show(T.without fs n).getD i T.o9=(T.without fs n)[i] from by simp[List.getD,a]];obtain⟨j,hj,e⟩:=T.getD_mem (Ep.1 (dh a)).1;rw[<- e];exact hf j
 rw[show(T.without fs n).getD i T.o9=T.o9 from by simp[List.getD,Eb (Aq a)]];exact⟨U5,U5⟩
theorem YU{l:BY}(h:Y5 l.data.toList=true):l.size<=20:=by
 unfold Y5 at h;simp only[Fa,Pe,Uy]at h;exact h.1.2
theorem pU{s:St}(h:Lh s):s.le 1048576:=by
 obtain⟨hw,⟨h1,h2⟩,h3,d⟩:=h;refine⟨⟨O0,λi=>?_⟩,O0,λi=>?_⟩
 ·by_cases a:i<s.ts.length
  ·obtain⟨c,t,hr⟩:=(h2 i a).1;obtain⟨hv,e⟩:=hr.1 rfl;have e:=G7 List.length e;have:=JF hv;simp only[Uy,f_]at e;show(s.ts.getD i ByteArray.empty).data.size<=_;omega
  rw[show s.ts.getD i ByteArray.empty=ByteArray.empty from by simp[List.getD,Eb (Aq a)]];decide
 by_cases a:i<s.rs.length;rotate_left
 ·rw[show s.rs.getD i d_=d_ from by simp[List.getD,Eb (Aq a)]];exact⟨U5,U5,(λk=>⟨by show(0:Nat)<=_;omega,by show(0:Nat)<=_;omega⟩),U5⟩
 obtain⟨⟨a1,a2,a3⟩,b⟩:=d i a;refine⟨O0,O0,λk=>?_,O0⟩;by_cases hk:k<(s.rs.getD i d_).gs.length
 ·have h5:=YU (b k hk).1;have h6:=(b k hk).2;exact⟨O0,O0⟩
 rw[show(s.rs.getD i d_).gs.getD k Jh=Jh from by rw[List.getD,Eb (Aq hk)];rfl];exact⟨by show(0:Nat)<=_;omega,by show(0:Nat)<=_;omega⟩
