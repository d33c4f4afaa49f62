import Derived.Deep.Heap
import Derived.Test.YtkccjgajimjjdaaGreatDooreEQ
import Derived.Test.YtkccjgajimjjdaaGreatDoortWF
import Derived.Test.YtkccjgajimjjdaaGreatDoorpC
set_option linter.unusedVariables false
set_option maxHeartbeats 8000000
set_option maxRecDepth 100000
namespace Go.Proofs.YtkccjgajimjjdaaGreatDoor
open Proofs.Tryz Go.RowKit
theorem VY(l:List UInt8)(w:World)(a:l.length<=1048700):Calls prog 126 #[.string (I4 l)] w λe w'=>(∃t,e=.returned (.string (I4 t))/\t.length<=l.length+1/\∀q,l=J6 q->t=q)/\Bw w w':=by
 have h:=a0V (I4 l) w (by rw[P5];exact a);rw[P5]at h;exact h
theorem LQ(s:BY)(w:World)(h1:1<=s.size)(h16:s.size<=16000)(hw:Y2 ((x9 10 s.data.toList).getD 0 [])=Oi):
 Calls prog 70 #[.string s] w λe w'=>Is4 s.data.toList w' e/\Bw w w':=by
 have hB0:Bw w ((w.alloc (.cells zE.toArray 74)).alloc (.cells zE.toArray 74)):=Y6.alloc E5 _;have hsl:s.data.toList.length=s.size:=E5;have HNE:Hid (s.data.toList≠[]):=λh=>by rw[h]at hsl;simp at hsl;omega
 have hse:(s.toList==[])=false:=by
  rw[ByteArray.toList_eq];exact V_.2 HNE.out
 have a6F:¬s.toList=[]:=by simpa using hse
 have a6G:decide (16000<(s.size:Int))=false:=Q8
 go_in
 go_wp2_with fail
 refine(YR s 10 _ O0).mono ?_;rintro e w1⟨⟨g2,cp,rfl,hg2,D⟩,hb1⟩;have a5Y:((w.alloc (.cells zE.toArray 74)).alloc (.cells zE.toArray 74)).heap.size=w.heap.size+2:=E5;have v:Below (w.heap.size+2) ((w.alloc (.cells zE.toArray 74)).alloc (.cells zE.toArray 74)) w1:=hb1.mono E5;have a6c:w.heap.size+2<=g2:=by have h:=hg2;simp at h;omega
 have hz1:w.heap.size+2<=w1.heap.size:=by have h:=v.size;rw[a5Y]at h;exact h
 have bR1:=((a_ w zE 74).below Y6 E5).below v O0;have oR1:=((jg w zE.toArray 74).below Y6 E5).below v O0;have bM1:=U6.below (by have h:=a_ (w.alloc (.cells zE.toArray 74)) zE 74;simp at h;exact h) v O0;have oM1:=H9.below (by have h:=jg (w.alloc (.cells zE.toArray 74)) zE.toArray 74;simp at h;exact h) v O0;have H:=hB0.trans (v.mono O0);have J:=Zn 10 s.data.toList;have X:=Rh 10 s.data.toList;clear hb1 hg2 a5Y v;obtain⟨y,Y⟩:∃y,y=x9 10 s.data.toList:=⟨_,rfl⟩;rw[<- Y]at D J X hw ⊢;have HLS:=U0 Y.symm;have HCS:Hid (∀k,(y.getD k []).length<=16000):=λk=>I8 (X k) O0;obtain⟨F,hF⟩:∃F,F=y.getD 0 []:=⟨_,rfl⟩;have HF:=U0 hF.symm;have hFl:F.length<=16000:=by rw[hF];exact HCS.out 0
 rw[<- hF]at hw;have a6d:=J.1;have a6z:y.length<=16001:=by have:=J.2;omega
 have c0:w1.cell? (aA g2 0)=some (vS (I4 F)):=by rw[hF];exact D.2 0 a6d
 have a6e:=D.1;clear hF Y X J
 go_wp2_with fail
 refine(Ku F _ O0 1 O0 O0).mono ?_;rintro e r⟨⟨g3,cp3,rfl,hg3,R⟩,n⟩;have hz3:=n.size;have bR:=U6.below bR1 n O0;have oR:=H9.below oR1 n O0;have bM:=U6.below bM1 n O0;have P:=H9.below oM1 n O0;have hL3:=U0 (Bg D n);have hB3:=J5 H n;have d0:r.cell? (aA g3 0)=some (vS (I4 (Y2 F))):=R.2 0 (by simp[Q_]);have a6p:=R.1;have hrs:=Y8 F;have hrN:I4 (l_ F 1)=I4 (J3 F):=rfl;rw[hrN];clear hrN n bR1 oR1 bM1 oM1 D H R c0 hB0;have hMz:w.heap.size+1<r.heap.size:=O0;have hRB:w.heap.size<w.heap.size+1:=O0;have a6q:w.heap.size+1<g3:=O0;have a6A:w.heap.size+1<g2:=O0;have a6f:g2<r.heap.size:=O0;clear hg3 a6e a6c hz1 hz3;generalize w.heap.size+1=a at*;have HXg:=λt ht=>a2N (l:=s.data.toList) (F:=F) (t:=t) (by rw[HLS.out];exact HF.out) hw ht;have HW:=U0 hw;have hes:I4 (Y2 F)=⟨#[102,105,108,101]⟩:=by rw[hw];rfl
 rw[hes]at d0;clear hw hes;have k0:=bM 0 _ rfl;have f0:=P 0;have a6y:=Y8 (J3 F);have a6H:=Y8 (J3 (J3 F))
 go_wp2_with fail
 refine(Ku (J3 F) _ O0 1 O0 O0).mono ?_;rintro e I⟨⟨g4,cp4,rfl,W,Q⟩,m⟩;have f:(r.setCell (aA a 0) (vI 2)).heap.size=r.heap.size:=E5;have hz4:r.heap.size<=I.heap.size:=by have h:=m.size;rw[f]at h;exact h
 have bM4:=U6.below (bM.set 0 (vI 2) (by show 0<10;omega)) m (by rw[f];exact hMz);have oM4:=H9.below (P.set (aA a 0) (vI 2)) m (by rw[f];exact hMz);have bR4:=U6.below (bR.other (aA a 0) (vI 2) (by show a≠w.heap.size;omega)) m (by rw[f];omega);have oR4:=H9.below (oR.set (aA a 0) (vI 2)) m (by rw[f];omega);have hB4:=(hB3.setCell (by show w.heap.size<=a;omega) _).trans (m.mono (by rw[f];omega));have a6S:r.heap.size<=g4:=by rw[f]at W;exact W
 have a5Z:=Q.1;have hL4:Hid (Oc I g2 y):=⟨O0,λi V=>(m.cell (by rw[f];exact a6f)).trans (gQ (q:=(aA a 0)) (p:=(aA g2 i)) (by show a≠g2;omega) (hL3.out.2 i V) _)⟩;have e0:I.cell? (aA g4 0)=some (vS (I4 (Y2 (J3 F)))):=Q.2 0 (by simp[Q_]);have a6T:I4 (l_ (J3 F) 1)=I4 (J3 (J3 F)):=rfl;rw[a6T];clear a6T m f bM P bR oR hB3 Q W hL3 d0 k0 f0;have a1:(Y2 (J3 F)).length<=16000:=O0;have a2:(J3 (J3 F)).length<=16000:=O0;clear hrs a6y a6H;generalize Y2 (J3 F)=b at*;generalize J3 (J3 F)=A2 at*
 go_wp2_with fail
 refine wp_region_held_drew (S:=(λu=>u.cell? (aA g4 0)=some (vS (I4 b)))) Y1 ?_ λhHeld=>?_
 ·exact e0
 iterate 4 refine sq ?_
 refine rq 4 λK E=>?_;go_simp;refine(VY A2 _ O0).mono ?_;rintro e d⟨⟨t,rfl,htl,htq⟩,hbn⟩;have j:Bw I d:=((G5 _ _).drew).trans hbn;have HTQ:=U0 htq;clear hbn htq
 go_wp2_with fail
 clear hHeld;refine A8 E ?_ λhHeld=>?_
 ·exact(j.cell (by exact a5Z)).trans e0
 clear E K
 iterate 2 refine sq ?_
 have L:=U6.below bM4 j O0;have oM5:=H9.below oM4 j O0;have e5:=(j.cell (by exact a5Z)).trans e0;refine rq 7 λK E=>?_;refine jd rfl 67 (.tmp 52) (.tmp 51) rfl a 2 rfl [vS (I4 b),vS (I4 t)] rfl (λi V=>by rcases i with _|_|i;exact(by rw[L 2 _ rfl];rfl);exact(by rw[L 3 _ rfl];rfl);simp at V;omega) oM5 (by simp[Value.oneCell']) Y1 rfl ?_;clear hHeld;refine A8 E ?_ λhHeld=>?_
 ·exact(Oa _ 2 (aA g4 0) (by show g4≠a;omega)).trans e5
 clear E K;refine wdn ?_;clear hHeld;have hz5:=j.size;have bR5:=U6.below bR4 j O0;have oR5:=H9.below oR4 j O0;have hB5:=J5 hB4 j;have N:=U0 (HXg t HTQ);have HM:U6 (fill d a 2 [vS (I4 b),vS (I4 t)]) a ((Lc (I4 b) (I4 t)).c none 0):=U6.fill (B:=a) [vS (I4 b),vS (I4 t)] [vI 2,vO] [vE,vE] [vE,vE,vE,vN,vO,vE] 2 L rfl rfl;have HR:U6 (fill d a 2 [vS (I4 b),vS (I4 t)]) w.heap.size zE:=U6.ZY O0 _ 2 bR5;have HO:H9 (fill d a 2 [vS (I4 b),vS (I4 t)]) w.heap.size:=H9.fill _ 2 oR5;have hBU:Bw w (fill d a 2 [vS (I4 b),vS (I4 t)]):=Ua O0 _ 2 hB5;have hMU:a<(fill d a 2 [vS (I4 b),vS (I4 t)]).heap.size:=by rw[Vh];omega
 have hRU:w.heap.size<(fill d a 2 [vS (I4 b),vS (I4 t)]).heap.size:=by rw[Vh];omega
 have HLK:S9 (fill d a 2 [vS (I4 b),vS (I4 t)]) none (Lc (I4 b) (I4 t)).ls:=.inl rfl;have hle:(Lc (I4 b) (I4 t)).le 1048576:=⟨by show(I4 b).size<=1048576;rw[P5];omega,by show(I4 t).size<=1048576;rw[P5];omega,⟨J4 _,J4 _,J4 _⟩,⟨J4 _,λ_=>⟨J4 _,J4 _⟩⟩,J4 _⟩;have a6r:∀g o,(none:OA)=some (aA g o)->g≠w.heap.size:=λ_ _ h=>by cases h
 clear bM4 oM4 L oM5 bR4 oR4 bR5 oR5 hB4 hB5 j HXg e0 e5;generalize fill d a 2 [vS (I4 b),vS (I4 t)]=U at*;generalize I4 b=C at*;generalize I4 t=A at*
 go_wp2_with(refine Ib (by rfl) 74 (.tmp 4) rfl a rfl ((Lc C A).c none 0) _ HM underlying74 rfl Y1 ?_)
 refine(c22 (Lc C A) none 0 _ hle HLK).mono ?_;rintro e U1⟨⟨z,rfl,hT⟩,x⟩;have HM1:=U6.below HM x hMU;have O:=U6.below HR x hRU;have HO1:=H9.below HO x hRU;have H:=J5 hBU x;have a6s:=U7 HLK x;clear HM HR HO HLK hBU x;by_cases he:z.data.toList=s.data.toList
 ·have HN:=U0 (Oq N hT HNE he);have Z:z.toList=s.toList:=by rw[ByteArray.toList_eq,ByteArray.toList_eq];exact he
  have e1:(z.toList==s.toList)=true:=by simpa using Z
  clear hT N he
  go_wp2_with(first|refine yc rfl 74 (.tmp 4) rfl a rfl ((Lc C A).c none 0) _ HM1 underlying74 rfl Y1 ?_|refine G8 rfl 74 (.tmp 2) (.tmp 123) rfl w.heap.size 0 rfl ((Lc C A).c none 0) rfl (r_ O _ rfl) HO1 (z_.fD _ _ _) Y1 rfl ?_)
  exact lK (Lc C A) none 0 true HN (λh=>by cases h) hle (Cm _ a6s a6r) rfl rfl rfl O H
 have HN:=U0 (Jv N hT he);have Z:¬z.toList=s.toList:=by rw[ByteArray.toList_eq,ByteArray.toList_eq];exact he
 have e1:(z.toList==s.toList)=false:=by simpa using Z
 clear hT N he
 go_wp2_with(refine G8 rfl 74 (.tmp 2) (.tmp 122) rfl w.heap.size 0 rfl zE rfl (r_ O zE rfl) HO1 (by simp[zE,Value.oneCell']) Y1 rfl ?_)
 exact Xk HN rfl rfl rfl O H
theorem kY(s:BY)(w:World)(h1:1<=s.size)(h16:s.size<=16000)(hw:Y2 ((x9 10 s.data.toList).getD 0 [])=Gl):
 Calls prog 70 #[.string s] w λe w'=>Is4 s.data.toList w' e/\Bw w w':=by
 have hB0:Bw w ((w.alloc (.cells zE.toArray 74)).alloc (.cells zE.toArray 74)):=Y6.alloc E5 _;have hsl:s.data.toList.length=s.size:=E5;have HNE:Hid (s.data.toList≠[]):=λh=>by rw[h]at hsl;simp at hsl;omega
 have hse:(s.toList==[])=false:=by
  rw[ByteArray.toList_eq];exact V_.2 HNE.out
 have a6F:¬s.toList=[]:=by simpa using hse
 have a6G:decide (16000<(s.size:Int))=false:=Q8
 go_in
 go_wp2_with fail
 refine(YR s 10 _ O0).mono ?_;rintro e w1⟨⟨g2,cp,rfl,hg2,hL1⟩,hb1⟩;have a5Y:((w.alloc (.cells zE.toArray 74)).alloc (.cells zE.toArray 74)).heap.size=w.heap.size+2:=E5;have Q:Below (w.heap.size+2) ((w.alloc (.cells zE.toArray 74)).alloc (.cells zE.toArray 74)) w1:=hb1.mono E5;have a6c:w.heap.size+2<=g2:=by have h:=hg2;simp at h;omega
 have hz1:w.heap.size+2<=w1.heap.size:=by have h:=Q.size;rw[a5Y]at h;exact h
 have bR1:=((a_ w zE 74).below Y6 E5).below Q O0;have oR1:=((jg w zE.toArray 74).below Y6 E5).below Q O0;have bM1:=U6.below (by have h:=a_ (w.alloc (.cells zE.toArray 74)) zE 74;simp at h;exact h) Q O0;have oM1:=H9.below (by have h:=jg (w.alloc (.cells zE.toArray 74)) zE.toArray 74;simp at h;exact h) Q O0;have hB1:=hB0.trans (Q.mono O0);have hcl:=Zn 10 s.data.toList;have hcs:=Rh 10 s.data.toList;clear hb1 hg2 a5Y Q;obtain⟨f,hLs⟩:∃f,f=x9 10 s.data.toList:=⟨_,rfl⟩;rw[<- hLs]at hL1 hcl hcs hw ⊢;have HLS:=U0 hLs.symm;have HCS:Hid (∀k,(f.getD k []).length<=16000):=λk=>I8 (hcs k) O0;obtain⟨F,hF⟩:∃F,F=f.getD 0 []:=⟨_,rfl⟩;have HF:=U0 hF.symm;have hFl:F.length<=16000:=by rw[hF];exact HCS.out 0
 rw[<- hF]at hw;have a6d:=hcl.1;have a6z:f.length<=16001:=by have:=hcl.2;omega
 have c0:w1.cell? (aA g2 0)=some (vS (I4 F)):=by rw[hF];exact hL1.2 0 a6d
 have a6e:=hL1.1;clear hF hLs hcs hcl
 go_wp2_with fail
 refine(Ku F _ O0 1 O0 O0).mono ?_;rintro e P⟨⟨g3,cp3,rfl,hg3,hl3⟩,N⟩;have hz3:=N.size;have bR:=U6.below bR1 N O0;have I:=H9.below oR1 N O0;have C:=U6.below bM1 N O0;have J:=H9.below oM1 N O0;have hL3:=U0 (Bg hL1 N);have hB3:=J5 hB1 N;have d0:P.cell? (aA g3 0)=some (vS (I4 (Y2 F))):=hl3.2 0 (by simp[Q_]);have a6p:=hl3.1;have hrs:=Y8 F;have hrN:I4 (l_ F 1)=I4 (J3 F):=rfl;rw[hrN];clear hrN N bR1 oR1 bM1 oM1 hL1 hB1 hl3 c0 hB0;have hMz:w.heap.size+1<P.heap.size:=O0;have hRB:w.heap.size<w.heap.size+1:=O0;have a6q:w.heap.size+1<g3:=O0;have a6A:w.heap.size+1<g2:=O0;have a6f:g2<P.heap.size:=O0;clear hg3 a6e a6c hz1 hz3;generalize w.heap.size+1=a at*;have HXg:=λq xs c t hq hs=>a2F (l:=s.data.toList) (F:=F) (q:=q) (xs:=xs) (c:=c) (t:=t) (by rw[HLS.out];exact HF.out) hw hq (by rw[HLS.out];exact hs);have HW:=U0 hw;have hes:I4 (Y2 F)=⟨#[114,97,110]⟩:=by rw[hw];rfl
 rw[hes]at d0;clear hw hes;have k0:=C 0 _ rfl;have f0:=J 0;have a6y:=Y8 (J3 F);have a6H:=Y8 (J3 (J3 F))
 go_wp2_with fail
 refine(Ku (J3 F) _ O0 2 O0 O0).mono ?_;rintro e w4⟨⟨g4,cp4,rfl,hg4,hl4⟩,L⟩;have D:(P.setCell (aA a 0) (vI 4)).heap.size=P.heap.size:=E5;have hz4:P.heap.size<=w4.heap.size:=by have h:=L.size;rw[D]at h;exact h
 have bM4:=U6.below (C.set 0 (vI 4) (by show 0<10;omega)) L (by rw[D];exact hMz);have oM4:=H9.below (J.set (aA a 0) (vI 4)) L (by rw[D];exact hMz);have bR4:=U6.below (bR.other (aA a 0) (vI 4) (by show a≠w.heap.size;omega)) L (by rw[D];omega);have oR4:=H9.below (I.set (aA a 0) (vI 4)) L (by rw[D];omega);have hB4:=(hB3.setCell (by show w.heap.size<=a;omega) _).trans (L.mono (by rw[D];omega));have a6S:P.heap.size<=g4:=by rw[D]at hg4;exact hg4
 have a5Z:=hl4.1;have hL4:Hid (Oc w4 g2 f):=⟨O0,λi r=>(L.cell (by rw[D];exact a6f)).trans (gQ (q:=(aA a 0)) (p:=(aA g2 i)) (by show a≠g2;omega) (hL3.out.2 i r) _)⟩;have a7F:=Y8 (l_ (J3 F) 1);have e0:w4.cell? (aA g4 0)=some (vS (I4 (Y2 (J3 F)))):=hl4.2 0 (by simp[Q_]);have e1:w4.cell? (aA g4 1)=some (vS (I4 (Y2 (l_ (J3 F) 1)))):=hl4.2 1 (by simp[Q_]);obtain⟨j0,H,hy0,hy1,hy2⟩:=info_parts kL;have hrl:=Gj (J3 F);have a1:(Y2 (J3 F)).length<=16000:=O0;have a2:(Y2 (l_ (J3 F) 1)).length<=16000:=by have h:=hrl 1;omega
 have a3:(l_ (J3 F) 2).length<=16000:=by have h:=hrl 2;omega
 clear L D C J bR I hB3 hl4 hg4 hL3 d0 k0 f0 hrs a6y a6H a7F hrl;generalize l_ (J3 F) 2=A3 at*;generalize Y2 (l_ (J3 F) 1)=b at*;generalize Y2 (J3 F)=d at*
 go_wp2_with fail
 refine wp_region_held_drew (S:=(λu=>u.cell? (aA g4 0)=some (vS (I4 d))/\u.cell? (aA g4 1)=some (vS (I4 b)))) Y1 ?_ λhHeld=>?_
 ·exact⟨e0,e1⟩
 iterate 7 refine sq ?_
 refine rq 7 λK hK=>?_;go_simp;refine(VY A3 _ O0).mono ?_;rintro e m⟨⟨q,rfl,htl,htq⟩,hbn⟩;have n:Bw w4 m:=((G5 _ _).drew).trans hbn;have HTQ:=U0 htq;clear hbn htq
 go_wp2_with fail
 clear hHeld;refine A8 hK ?_ λhHeld=>?_
 ·exact⟨(n.cell (by exact a5Z)).trans e0,(n.cell (by exact a5Z)).trans e1⟩
 clear hK K
 iterate 2 refine sq ?_
 have bM5:=U6.below bM4 n O0;have oM5:=H9.below oM4 n O0;have e5:=(n.cell (by exact a5Z)).trans e0;have e6:=(n.cell (by exact a5Z)).trans e1;refine rq 10 λK hK=>?_;refine jd rfl 69 (.tmp 79) (.tmp 78) rfl a 4 rfl [vS (I4 d),vS (I4 b),vS (I4 q)] rfl (λi r=>by rcases i with _|_|_|i;exact(by rw[bM5 4 _ rfl];rfl);exact(by rw[bM5 5 _ rfl];rfl);exact(by rw[bM5 6 _ rfl];rfl);simp at r;omega) oM5 (by simp[Value.oneCell']) Y1 rfl ?_;clear hHeld;refine A8 hK ?_ λhHeld=>?_
 ·exact⟨(Oa _ 4 (aA g4 0) (by show g4≠a;omega)).trans e5,(Oa _ 4 (aA g4 1) (by show g4≠a;omega)).trans e6⟩
 clear hK K;refine wdn ?_;clear hHeld;have hz5:=n.size;have a6U:=U6.below bR4 n O0;have a6V:=H9.below oR4 n O0;have a6W:=J5 hB4 n;have hL5':=Bg hL4 n;have bM6:U6 (fill m a 4 [vS (I4 d),vS (I4 b),vS (I4 q)]) a [vI 4,vO,vE,vE,vS (I4 d),vS (I4 b),vS (I4 q),vN,vO,vE]:=U6.fill (B:=a) [vS (I4 d),vS (I4 b),vS (I4 q)] [vI 4,vO,vE,vE] [vE,vE,vE] [vN,vO,vE] 4 bM5 rfl rfl;have oM6:H9 (fill m a 4 [vS (I4 d),vS (I4 b),vS (I4 q)]) a:=H9.fill _ 4 oM5;have bR6:U6 (fill m a 4 [vS (I4 d),vS (I4 b),vS (I4 q)]) w.heap.size zE:=U6.ZY O0 _ 4 a6U;have oR6:H9 (fill m a 4 [vS (I4 d),vS (I4 b),vS (I4 q)]) w.heap.size:=H9.fill _ 4 a6V;have hB6:Bw w (fill m a 4 [vS (I4 d),vS (I4 b),vS (I4 q)]):=Ua O0 _ 4 a6W;have hz6:(fill m a 4 [vS (I4 d),vS (I4 b),vS (I4 q)]).heap.size=m.heap.size:=Vh _ _;have hL6:Oc (fill m a 4 [vS (I4 d),vS (I4 b),vS (I4 q)]) g2 f:=⟨by rw[hz6];exact hL5'.1,λi r=>(Oa _ 4 (aA g2 i) (by show g2≠a;omega)).trans (hL5'.2 i r)⟩;have a6X:g2<m.heap.size:=O0;have hMw:a<m.heap.size:=O0;rw[<- hz6]at a6X hMw;clear hz6 n bM4 oM4 bM5 oM5 bR4 oR4 a6U a6V hB4 a6W hL5' hL4 e0 e1 e5 e6;generalize fill m a 4 [vS (I4 d),vS (I4 b),vS (I4 q)]=w6 at*;obtain⟨z,a7G⟩:∃z,z=w6.heap.size:=⟨_,rfl⟩;have A:a<z:=O0;have hgB:g2<z:=O0;have X:w.heap.size<z:=O0;clear a6S a5Z hz4 hz5 hMz a6f a6p a6q;go_wp2;go_loopw[12] (λi wr=>∃(k:Nat)(xs:List L4)(v:Value)(c:Int)(t:ByteArray),(1<=k/\k<=f.length/\xs.length<=k)/\i=.int .i64 k/\wr.ownsRow z 138 4 v xs.length (BI xs)/\U6 wr a [.int .i64 4,.int .i64 0,.string ⟨#[]⟩,.string ⟨#[]⟩,.string (I4 d),.string (I4 b),.string (I4 q),v,.int .i64 c,.string t]/\H9 wr a/\U6 wr w.heap.size zE/\H9 wr w.heap.size/\Oc wr g2 f/\Below w.heap.size w wr/\z<=wr.heap.size/\Hid (ay f k xs c t/\(∀j,(xs.getD j M_).le 1048576)/\t.size<=1048576)) (λi _=>f.length-(RowKit.intOf i).toNat);exact⟨1,[],vN,0,⟨#[]⟩,⟨J8 _,O0,J4 _⟩,rfl,⟨rfl,.inl ⟨rfl,rfl⟩⟩,bM6,oM6,bR6,oR6,hL6,hB6,O0,⟨VT _ _ _,λ_=>⟨J4 _,J4 _⟩,J4 _⟩⟩;clear bM6 oM6 bR6 oR6 hL6 hB6 a7G a6X hMw;obtain⟨k,xs,v,c,t,⟨hk1,hk2,hk3⟩,rfl,hown,C,J,bR,I,O,hB,hz,E⟩:=hrel;by_cases hlt:k<f.length
 ·have ck:=O.2 k hlt;have hT:=HCS.out k;have a6j:=λx h=>QW (x:=x) E.out.1 hk1 hlt h;have a6k:=λx c2 t2 h U hr=>a1d (x:=x) (c2:=c2) (t2:=t2) E.out.1 hk1 hlt h U hr;have a6l:=λx h U=>jY (x:=x) E.out.1 hk1 hlt h U;have a6Y:=E.out.2;clear E;generalize f.getD k []=T at*;have a6j:Hid _:=a6j;have a6k:Hid _:=a6k;have a6l:Hid _:=a6l;have HXS:Hid _:=a6Y;clear a6Y
  go_wp2_with fail
  refine(a2B T _ hT).mono ?_;rintro e w7⟨⟨x,ok,rfl,hls,a7H⟩,hb7⟩;have HLL:=U0 hls;have a6a:=qw hown hb7;have hz7:=hb7.size;have a7I:=hb7.mono hz;have R:=J5 hB hb7;have oa:∀o,Below z wr (w7.alloc o):=λo=>a7I.alloc O0 o;clear hls hb7 hown;unfold L4.v;cases ok
  ·have ck7:∀o,(w7.alloc o).cell? (aA g2 k)=some (vS (I4 T)):=λo=>((oa o).cell (by exact hgB)).trans ck;by_cases U:5<T.length
   ·have h5':decide ((5:Int)<((I4 T).size:Int))=true:=by rw[P5];simp;omega
    have h5n:5<=(I4 T).size:=by rw[P5];omega
    have hex:(I4 T).extract 5 (I4 T).size=I4 (T.drop 5):=Tc (by rw[ext_list,P5,f_,C_ O0])
    go_wp2_with fail
    refine(a1O (T.drop 5) _ (by rw[jk];omega)).mono ?_;rintro e w8⟨⟨c2,t2,rfl,hr8,ht8⟩,y⟩;have HSO:Hid (ay f (k+1) xs c2 t2/\(∀j,(xs.getD j M_).le 1048576)/\t2.size<=1048576):=⟨a6k x c2 t2 HLL U hr8,HXS.out.1,ht8⟩;have a6t:=(oa _).trans (y.mono Q8);have a6h:=qw (a6a.alloc _) y;have hB8:=(R.alloc R.size _).trans (y.mono (by have:=R.size;simp;omega));have hz8:wr.heap.size<=w8.heap.size:=by have h:=y.size;simp at h;omega
    have Z:=C.below a6t A;have V:=J.below a6t A;have k8:=Z 8 _ rfl;have f8:=V 8;have k9:=Z 9 _ rfl;have f9:=V 9;clear hr8 y a6j a6k a6l;go_wp2;go_roundw
    ·exact⟨k+1,xs,v,c2,t2,⟨O0,O0,O0⟩,by go_num,qB (qB a6h (aA a 8) _ A) (aA a 9) _ A,(Z.set 8 (vI c2) (by show 8<10;omega)).set 9 (vS t2) (by show 9<10;omega),(V.set _ _).set _ _,((bR.below a6t X).other _ _ (by show a≠w.heap.size;omega)).other _ _ (by show a≠w.heap.size;omega),((I.below a6t X).set _ _).set _ _,⟨by have:=O.1;simp;omega,λi r=>gQ (q:=(aA a 9)) (p:=(aA g2 i)) (by show a≠g2;omega) (gQ (q:=(aA a 8)) (p:=(aA g2 i)) (by show a≠g2;omega) ((a6t.cell (by exact hgB)).trans (O.2 i r)) _) _⟩,(hB8.setCell (by show w.heap.size<=a;omega) _).setCell (by show w.heap.size<=a;omega) _,Q8,HSO⟩
    exact Z9
   have h5':decide ((5:Int)<((I4 T).size:Int))=false:=by rw[P5];simp;omega
   have HSO:Hid (ay f (k+1) xs c t/\(∀j,(xs.getD j M_).le 1048576)/\t.size<=1048576):=⟨a6l x HLL U,HXS⟩;clear a6j a6k a6l U;go_wp2;go_roundw;exact⟨k+1,xs,v,c,t,⟨O0,O0,O0⟩,by go_num,a6a.alloc _,C.below (oa _) A,J.below (oa _) A,bR.below (oa _) X,I.below (oa _) X,⟨by have:=O.1;simp;omega,λi r=>((oa _).cell (by exact hgB)).trans (O.2 i r)⟩,R.alloc R.size _,Q8,HSO⟩;exact Z9
  have HSO:Hid (ay f (k+1) (xs++[x]) c t/\(∀j,((xs++[x]).getD j M_).le 1048576)/\t.size<=1048576):=⟨a6j x HLL,λj=>by
   rcases D8 j xs.length with H|H
   ·have:(xs++[x]).getD j M_=xs.getD j M_:=by
     simp only[Sj];rw[G_ H]
    rw[this];exact HXS.out.1 j
   by_cases hj2:j=xs.length
   ·have:(xs++[x]).getD j M_=x:=by
     simp only[Sj];rw[Ue H,hj2];simp
    rw[this];exact a7H
   have:(xs++[x]).getD j M_=M_:=by
    simp only[Sj];rw[Zb Q8];rfl
   rw[this];exact⟨J4 _,J4 _⟩,HXS.out.2⟩
  clear a6j a6k a6l;have k7a:=λo=>C.below (oa o) A 7 _ rfl;have oaa:∀o o',Below z wr ((w7.alloc o).alloc o'):=λo o'=>(oa o).alloc Q8 o'
  go_wp2_with(at_builtin;refine wpList_append_own _ rfl _ _ 70 rfl z 138 j0 (.agg #[.bool false,.string ⟨#[]⟩,.int .i64 0,.string ⟨#[]⟩]) 4 48 underlying70 H hy0 hy1 hy2 rfl Z5 _ _ _ rfl ((a6a.alloc _).alloc _) ⟨w7.heap.size+1,0,none⟩ 1 1 [_,_,_,_] rfl rfl (gZ E5 _ _ _ _ _) (by intro u hu;simp at hu;rcases hu with rfl|rfl|rfl|rfl<;>rfl) (by unfold maxLen;omega) O0 Q8 ?_;intro v' w8 a6h hgrow _;have y:Below z wr w8:=(oaa _ _).grown hgrow Q8 (λj H=>(a6a.lt j H).1);have hB8:Bw w w8:=((R.alloc R.size _).alloc Q8 _).grown hgrow Q8 (λj H=>by have:=(a6a.lt j H).1;omega);have hz8:w7.heap.size<=w8.heap.size:=(by have:=hgrow.size;simp at this;omega);clear hgrow;obtain⟨g8,cp8,hv8⟩:=Wl a6h O0;subst hv8;have Z:=C.below y A;have V:=J.below y A;have k7:=Z 7 _ rfl;have f7:=V 7)
  go_roundw
  ·refine⟨k+1,xs++[x],vL (some (aA g8 0)) (xs.length+1) cp8,c,t,⟨O0,O0,Q8⟩,by go_num,?_,?_,V.set _ _,(bR.below y X).other _ _ (by show a≠w.heap.size;omega),(I.below y X).set _ _,⟨by have:=O.1;simp;omega,λi r=>gQ (q:=(aA a 7)) (p:=(aA g2 i)) (by show a≠g2;omega) ((y.cell (by exact hgB)).trans (O.2 i r)) _⟩,hB8.setCell (by show w.heap.size<=a;omega) _,Q8,HSO⟩
   ·rw[P9,kH];exact qB a6h (aA a 7) _ A
   exact Z.set 7 _ (by show 7<10;omega)
  exact Z9
 obtain rfl:k=f.length:=O0;have HX:=U0 (HXg q xs c t HTQ E.out.1);have hxl:=E.out.2.1;have htx:=E.out.2.2;obtain⟨ao,Y,hv,hlk⟩:=QL hown rfl;subst hv;have a6r:∀g o,ao=some (aA g o)->g≠w.heap.size:=λg o h=>by
  subst h;have:=(hown.lt g rfl).1;omega
 have HM:U6 wr a ((Qg ⟨I4 d,I4 b,I4 q⟩ xs c t).c ao Y):=C;have HR:=bR;have HO:=I;have hBU:=hB;have hMU:a<wr.heap.size:=O0;have hRU:w.heap.size<wr.heap.size:=O0;have HLK:S9 wr ao (Qg ⟨I4 d,I4 b,I4 q⟩ xs c t).ls:=hlk.at';have hle:(Qg ⟨I4 d,I4 b,I4 q⟩ xs c t).le 1048576:=⟨J4 _,J4 _,⟨by show(I4 d).size<=1048576;rw[P5];omega,by show(I4 b).size<=1048576;rw[P5];omega,by show(I4 q).size<=1048576;rw[P5];omega⟩,⟨by show xs.length<=1048576;omega,hxl⟩,htx⟩;clear E hown hlk C J bR I O hB HXg hxl htx;generalize Qg ⟨I4 d,I4 b,I4 q⟩ xs c t=XX at*
 go_wp2_with(refine Ib (by rfl) 74 (.tmp 4) rfl a rfl ((XX).c ao Y) _ HM underlying74 rfl Y1 ?_)
 refine(c22 (XX) ao Y _ hle HLK).mono ?_;rintro e U1⟨⟨str,rfl,hT⟩,W⟩;have HM1:=U6.below HM W hMU;have HR1:=U6.below HR W hRU;have HO1:=H9.below HO W hRU;have hB1:=J5 hBU W;have a6s:=U7 HLK W;clear HM HR HO HLK hBU W;by_cases he:str.data.toList=s.data.toList
 ·have HN:=U0 (Oq HX hT HNE he);have e2:str.toList=s.toList:=by rw[ByteArray.toList_eq,ByteArray.toList_eq];exact he
  have e1:(str.toList==s.toList)=true:=by simpa using e2
  clear hT HX he
  go_wp2_with(first|refine yc rfl 74 (.tmp 4) rfl a rfl ((XX).c ao Y) _ HM1 underlying74 rfl Y1 ?_|refine G8 rfl 74 (.tmp 2) (.tmp 123) rfl w.heap.size 0 rfl ((XX).c ao Y) rfl (r_ HR1 _ rfl) HO1 (z_.fD _ _ _) Y1 rfl ?_)
  exact lK (XX) ao Y true HN (λh=>by cases h) hle (Cm _ a6s a6r) rfl rfl rfl HR1 hB1
 have HN:=U0 (Jv HX hT he);have e2:¬str.toList=s.toList:=by rw[ByteArray.toList_eq,ByteArray.toList_eq];exact he
 have e1:(str.toList==s.toList)=false:=by simpa using e2
 clear hT HX he
 go_wp2_with(refine G8 rfl 74 (.tmp 2) (.tmp 122) rfl w.heap.size 0 rfl zE rfl (r_ HR1 zE rfl) HO1 (by simp[zE,Value.oneCell']) Y1 rfl ?_)
 exact Xk HN rfl rfl rfl HR1 hB1
theorem cO(w:World):
 Calls prog 70 #[.string ⟨#[]⟩] w λe w'=>Is4 [] w' e/\Bw w w':=by
 have u:Bw w ((w.alloc (.cells zE.toArray 74)).alloc (.cells zE.toArray 74)):=Y6.alloc E5 _
 go_in
 go_wp2_with fail
 refine(YR ⟨#[]⟩ 10 _ Z5).mono ?_;rintro e w1⟨⟨g2,cp,rfl,r,c⟩,t⟩;have p:((w.alloc (.cells zE.toArray 74)).alloc (.cells zE.toArray 74)).heap.size=w.heap.size+2:=E5;have b:Below (w.heap.size+2) ((w.alloc (.cells zE.toArray 74)).alloc (.cells zE.toArray 74)) w1:=t.mono E5;have D:w.heap.size+2<=g2:=by have h:=r;simp at h;omega
 have A:w.heap.size+2<=w1.heap.size:=by have h:=b.size;rw[p]at h;exact h
 have v:=((a_ w zE 74).below Y6 E5).below b O0;have n:=((jg w zE.toArray 74).below Y6 E5).below b O0;have x:=U6.below (by have h:=a_ (w.alloc (.cells zE.toArray 74)) zE 74;simp at h;exact h) b O0;have o:=H9.below (by have h:=jg (w.alloc (.cells zE.toArray 74)) zE.toArray 74;simp at h;exact h) b O0;have g:=u.trans (b.mono O0);have f:=Zn 10 ([]:List UInt8);have l:=Rh 10 ([]:List UInt8);clear t r p b;obtain⟨d,m⟩:∃d,d=x9 10 ([]:List UInt8):=⟨_,rfl⟩;rw[<- m]at c f l ⊢;have N:=U0 m.symm;have P:Hid (∀k,(d.getD k []).length<=16000):=λk=>I8 (l k) E5;obtain⟨F,hF⟩:∃F,F=d.getD 0 []:=⟨_,rfl⟩;have O:=U0 hF.symm;have hFl:F.length<=16000:=by rw[hF];exact P.out 0
 have E:=f.1;have a6z:d.length<=16001:=by have:=f.2;simp at this;omega
 have K:w1.cell? (aA g2 0)=some (vS (I4 F)):=by rw[hF];exact c.2 0 E
 have C:=c.1;clear hF m l f
 go_wp2_with fail
 refine(Ku F _ O0 1 O0 O0).mono ?_;rintro e i⟨⟨g3,cp3,rfl,B,j⟩,a⟩;have z:=a.size;have bR:=U6.below v a O0;have y:=H9.below n a O0;have bM:=U6.below x a O0;have oM:=H9.below o a O0;have hL3:=U0 (Bg c a);have I:=J5 g a;have J:i.cell? (aA g3 0)=some (vS (I4 (Y2 F))):=j.2 0 (by simp[Q_]);have a6p:=j.1;have hrs:=Y8 F;have q:I4 (l_ F 1)=I4 (J3 F):=rfl;rw[q];clear q a v n x o c g j K u;have H:F=[]:=by rw[<- O.out,<- N.out];rfl
 subst H;have s:I4 (Y2 [])=⟨#[]⟩:=rfl;rw[s]at J;clear s;have hMz:w.heap.size+1<i.heap.size:=O0;have hRB:w.heap.size<w.heap.size+1:=O0;have a6q:w.heap.size+1<g3:=O0;have a6A:w.heap.size+1<g2:=O0;have a6f:g2<i.heap.size:=O0;clear B C D A z;generalize w.heap.size+1=Bm at*;have L:=U0 (GK (.inl rfl));have g:=I
 go_wp2_with(refine G8 rfl 74 (.tmp 2) (.tmp 122) rfl w.heap.size 0 rfl zE rfl (r_ bR zE rfl) y (by simp[zE,Value.oneCell']) Y1 rfl ?_)
 exact Xk L.out rfl rfl rfl bR g
theorem c70(s:BY)(w:World)(hs:s.size<=1048576):
 Calls prog 70 #[.string s] w λe w'=>Is4 s.data.toList w' e/\Bw w w':=by
 have hsl:s.data.toList.length=s.size:=E5;by_cases h0:1<=s.size
 ·by_cases a:s.size<=16000
  ·by_cases c:Y2 ((x9 10 s.data.toList).getD 0 [])=Gl
   ·exact kY s w h0 a c
   by_cases h1:Y2 ((x9 10 s.data.toList).getD 0 [])=Bd
   ·exact yO s w h0 a h1
   by_cases h2:Y2 ((x9 10 s.data.toList).getD 0 [])=Oi
   ·exact LQ s w h0 a h2
   by_cases d:Y2 ((x9 10 s.data.toList).getD 0 [])=Eh
   ·exact JU s w h0 a d
   by_cases b:Y2 ((x9 10 s.data.toList).getD 0 [])=ah
   ·exact TM s w h0 a b
   exact QU s w h0 a ⟨c,h1,h2,d,b⟩
  have k:Hid (RES s.data.toList Dj false):=GK (.inr O0);have j:Bw w (w.alloc (.cells zE.toArray 74)):=Y6;have hA:=a_ w zE 74;have i:=jg w zE.toArray 74;have g:=r_ hA zE rfl;have h2:decide (16000<(s.size:Int))=true:=Q8
  go_in
  go_wp2_with(refine G8 rfl 74 (.tmp 2) (.tmp 18) rfl w.heap.size 0 rfl zE rfl g i (by simp[zE,Value.oneCell']) Y1 rfl ?_)
  exact Xk k.out rfl rfl rfl hA j
 have f:s=⟨#[]⟩:=by
  apply Xf;have:s.data.size=0:=by
   have h:s.size=0:=O0;exact h
  exact Array.eq_empty_of_size_eq_zero this
 subst f;exact cO w
theorem qE{l:List UInt8}{x y:z_}{a b:Bool}(hx:RES l x a)(c:RE l y b)(e:a=false->x=Dj)(d:b=false->y=Dj):a=b/\x=y:=by
 cases a<;>cases b
 ·exact⟨rfl,by rw[e rfl,d rfl]⟩
 ·obtain⟨h1,h2⟩:=c.1 rfl;exact absurd h2 (hx.2 rfl y h1)
 ·obtain⟨h1,h2,_⟩:=hx.1 rfl;exact absurd h2 (c.2 rfl x h1)
 obtain⟨_,_,f⟩:=hx.1 rfl;obtain⟨h1,h2⟩:=c.1 rfl;exact⟨rfl,f y h1 h2⟩
theorem a2L(a b:BY)(w:World):
 Calls prog 163 #[.agg #[.string a,.string b],.agg #[.string a,.string b]] w λe w'=>e=.returned (.bool true)/\Bw w w':=by
 go_in
 go_wp2;go_ret;exact⟨rfl,Y6.alloc E5 _⟩
structure MS where
 ep:Int
 fs:List T.F2
 s:St
noncomputable def yN(fs:List T.F2)(x:T.F2):Option (List T.F2):=@dite _ (∃gs,T.Vp fs x 0 gs) (Classical.propDecidable _) (λh=>some h.choose) (λ_=>none)
noncomputable def drF(fs:List T.F2)(n:BY):Option (List T.F2):=@dite _ (∃gs,T.aj fs n 0 gs) (Classical.propDecidable _) (λh=>some h.choose) (λ_=>none)
section
variable{fs gs:List T.F2}{x:T.F2}{n:BY}{c:Int}
theorem DT(h:T.Vp fs x 0 gs):yN fs x=some gs:=by
 have a:∃gs,T.Vp fs x 0 gs:=⟨gs,h⟩;unfold yN;rw[dif_pos a];exact l7 some (T.BH h a.choose_spec).2
theorem DU(h:T.Vp fs x c gs)(hc:c≠0):yN fs x=none:=by
 unfold yN;exact dif_neg (λ⟨gs',k⟩=>hc (T.BH k h).1)
theorem qZ(h:T.aj fs n 0 gs):drF fs n=some gs:=by
 have a:∃gs,T.aj fs n 0 gs:=⟨gs,h⟩;unfold drF;rw[dif_pos a];exact l7 some (T.oD h a.choose_spec).2
theorem XY(h:T.aj fs n c gs)(hc:c≠0):drF fs n=none:=by
 unfold drF;exact dif_neg (λ⟨gs',k⟩=>hc (T.oD k h).1)
end
noncomputable def dn(m:MS)(x:z_):Option MS:=
 if x.kd=1 then(if x.ep=m.ep+1 then some ⟨x.ep,m.fs,m.s⟩ else none)
 else if x.kd=2 then(yN m.fs ⟨x.fn,x.ft⟩).map λgs=>⟨m.ep,gs,m.s⟩
 else if x.kd=3 then(drF m.fs x.fn).map λgs=>⟨m.ep,gs,m.s⟩
 else if x.kd=4 then(if (Aa m.s x.km x.ls x.cd x.tx).2=0 then some ⟨m.ep,m.fs,(Aa m.s x.km x.ls x.cd x.tx).1⟩ else none)
 else some ⟨m.ep,m.fs,⟨m.s.wd,[],[]⟩⟩
noncomputable def rn(f:Nat->z_)(m0:MS):Nat->Option MS
 | 0=>some m0
 | k+1=>(rn f m0 k).bind λm=>dn m (f k)
theorem Nl{f g:Nat->z_}{m0:MS}:∀(k:Nat),(∀i,i<k->f i=g i)->rn f m0 k=rn g m0 k
 | 0,_=>rfl
 | k+1,h=>by
  unfold rn;rw[Nl k (λi hi=>h i O0),h k O0]
theorem EL{f:Nat->z_}{m0 m:MS}{k n:Nat}(hk:k<=n)(h:rn f m0 n=some m):∃m',rn f m0 k=some m':=by
 induction n generalizing m with
 | zero=>
  obtain rfl:k=0:=O0;exact⟨m,h⟩
 | succ n ih=>
  by_cases a:k=n+1
  ·exact⟨m,a▸h⟩
  unfold rn at h
  cases hq:rn f m0 n with
  | none=>rw[hq]at h;cases h
  | some m'=>exact ih O0 hq
def eL(es:LB)(i:Nat):List UInt8:=(es.getD i ByteArray.empty).data.toList
def NG(R:List UInt8->z_->Bool->Prop)(es:LB)(m0:MS)(o:Option MS):Prop:=
 (∃f m,(∀i,i<es.length->R (eL es i) (f i) true)/\rn f m0 es.length=some m/\o=some m)\/
 (o=none/\∃k f m,k<es.length/\(∀i,i<k->R (eL es i) (f i) true)/\rn f m0 k=some m/\(R (eL es k) Dj false\/(R (eL es k) (f k) true/\dn m (f k)=none)))
theorem fV{l:List UInt8}{x y:z_}(h:RES l x true)(k:RE l y true):x=y:=(qE h k (λc=>by cases c) (λc=>by cases c)).2
theorem a0c{es:LB}{m0:MS}{o n:Option MS}(h:NG RES es m0 o)(s:NG RE es m0 n):o=n:=by
 rcases h with⟨f,m,hf,hm,rfl⟩|⟨rfl,k,f,m,r,hf,hm,hx⟩
 ·rcases s with⟨g,m',b,l,rfl⟩|⟨rfl,k',g,m',p,b,l,j⟩
  ·rw[Nl es.length (λi d=>fV (hf i d) (b i d)),l]at hm;exact hm.symm
  exfalso;have e:=Nl (m0:=m0) k' (λi d=>fV (hf i O0) (b i d));rw[l]at e;obtain⟨q,a⟩:=EL (k:=k'+1) O0 hm;unfold rn at a;rw[e]at a;rcases j with j|⟨j,hd⟩
  ·have:=(qE (hf k' p) j (λc=>by cases c) (λ_=>rfl)).1;cases this
  rw[fV (hf k' p) j]at a;rw[show((some m').bind λm=>dn m (g k'))=dn m' (g k') from rfl,hd]at a;cases a
 rcases s with⟨g,m',b,l,rfl⟩|⟨rfl,_⟩;rotate_left
 ·rfl
 exfalso;have e:=Nl (m0:=m0) k (λi d=>fV (hf i d) (b i O0));rw[hm]at e;obtain⟨q,a⟩:=EL (k:=k+1) O0 l;unfold rn at a;rw[<- e]at a;rcases hx with hx|⟨hx,hd⟩
 ·have:=(qE hx (b k r) (λ_=>rfl) (λc=>by cases c)).1;cases this
 rw[<- fV hx (b k r)]at a;rw[show((some m).bind λq=>dn q (f k))=dn m (f k) from rfl,hd]at a;cases a
theorem JR{W:Int}{ts:LB}(h:Hl W ts){k:Nat}(b:k<ts.length)(h0:k≠0):Op.bytesLess (G7 (ts.getD (k-1) ByteArray.empty) W).toList (G7 (ts.getD k ByteArray.empty) W).toList=true:=by
 have a:=xQ.1 h (k-1) k Q8 (by simpa using b) O0;simp only[DF]at a;have e1:ts.getD (k-1) ByteArray.empty=ts[k-1]:=by simp[List.getD,show k-1<ts.length by omega]
 have c:ts.getD k ByteArray.empty=ts[k]:=by simp[List.getD,b]
 rw[oL,e1,c];unfold gT Ar at a;rw[<- ByteArray.toList_eq,<- ByteArray.toList_eq]at a;exact a
theorem a0D{ls:List L4}(h:∀x∈ls,ji x){r:Int×ByteArray}(hr:r∈F_ ls):vr r.1 r.2.data.toList=true:=by
 induction ls with
 | nil=>cases hr
 | cons x l ih=>
  unfold F_ at hr;split at hr
  ·exact ih (λy a=>h y (Og _ a)) hr
  rcases Xe.1 hr with rfl|hr
  ·rename_i b;rcases(h x (Vr ..)).2 with⟨k,_⟩|⟨_,k⟩
   ·exact absurd k b
   exact k
  exact ih (λy a=>h y (Og _ a)) hr
theorem nY{ls:List L4}(h:yg ls):∀x∈ls,ji x:=λx hx=>by
 obtain⟨i,a,rfl⟩:=Ze hx;have:=h.2 i a
 rwa[show ls.getD i M_=ls[i] from by simp[List.getD,a]]at this
theorem DK{s:St}{m:M3}{ls:List L4}{c:Int}{t:BY}(h:Bh s)(a:x_ s.wd s.ts s.rs m ls c t=0):Bh ⟨s.wd,(P8 s.wd (Pm ls c t) (s.ts,true)).1,Vg s.rs (Ri s.wd m ls c t)⟩:=by
 have hr:Fg m ls c t:=by
  unfold x_ at a;split at a
  ·cases a
  rename_i g;exact CJ.1 g
 have hl:(P8 s.wd (Pm ls c t) (s.ts,true)).1.length<=300/\(Vg s.rs (Ri s.wd m ls c t)).length<=150:=by
  unfold x_ at a;rw[Y7 (λk=>k hr)]at a;split at a
  ·cases a
  split at a
  ·cases a
  rename_i g;omega
 refine⟨h.1,⟨hl.1,λk a=>⟨?_,?_⟩⟩,hl.2,λi d=>?_⟩
 ·have hm:=Dv a;have hm:=Dz _ _ hm;dsimp only at hm ⊢;generalize (P8 s.wd (Pm ls c t) (s.ts,true)).1.getD k ByteArray.empty=q at hm ⊢;rcases hm with hm|hm
  ·obtain⟨r,j,rfl⟩:=zl.1 hm;rcases Dh.1 j with h1|h1
   ·exact⟨_,_,KD (a0D (nY hr.2.1) h1)⟩
   obtain rfl:=Dk.1 h1;exact⟨_,_,KD hr.2.2⟩
  obtain⟨i,d,e⟩:=Ze hm;have:=(h.2.1.2 i d).1
  rwa[show s.ts.getD i ByteArray.empty=s.ts[i] from by simp[List.getD,d],e]at this
 ·by_cases h0:k=0
  ·exact .inl h0
  exact .inr (JR (Xz (Hr h)) a h0)
 have key:∀x∈Vg s.rs (Ri s.wd m ls c t),RG s.wd x:=λx hx=>by
  have:x∈s.rs\/x=Ri s.wd m ls c t:=by
   unfold Vg at hx;split at hx
   ·exact .inl hx
   simpa using hx
  rcases this with hx|rfl
  ·obtain⟨i,d,rfl⟩:=Ze hx;have:=h.2.2.2 i d
   rwa[show s.rs.getD i h_=s.rs[i] from by simp[List.getD,d]]at this
  have hz:∀b:BY,((G7 b s.wd).size:Int)=s.wd:=λb=>by rw[mr h.1];have:=h.1;omega
  refine⟨⟨bH hr.1,hz _,by show(ls.map _).length<=15;rw[Cf];exact hr.2.1.1⟩,λi d=>?_⟩;have f:i<ls.length:=by simpa[Ri]using d
  have e:(Ri s.wd m ls c t).gs.getD i zh=Dy s.wd (ls.getD i M_):=by simp[Ri,List.getD,f]
  rw[e];exact⟨(hr.2.1.2 i f).1,hz _⟩
 have:=key _ (Zj d)
 rwa[show(Vg s.rs (Ri s.wd m ls c t)).getD i h_=(Vg s.rs (Ri s.wd m ls c t))[i] from by have d:i<(Vg s.rs (Ri s.wd m ls c t)).length:=d;simp[List.getD,d]]
end Go.Proofs.YtkccjgajimjjdaaGreatDoor
namespace Go.Proofs.YtkccjgajimjjdaaGreatDoor
open Proofs.Tryz Go.RowKit
variable{w w':World}{b0:Nat}{m:MS}{vs:List Value}{fs gs:List T.F2}
structure MOk(m:MS):Prop where
 e0:0<=m.ep
 e1:m.ep<=200
 fl:m.fs.length<=40
 fz:∀i,(m.fs.getD i T.G9).le 4000
 st:Bh m.s
structure Ey(w:World)(b0:Nat)(m:MS)(vs:List Value):Prop where
 ok:MOk m
 ex:∃fv tv rv,vs=[.int .i64 0,.int .i64 m.ep,fv,.int .i64 m.s.wd,tv,rv]/\w.ownsRow b0 67 2 fv m.fs.length (T.U3 m.fs)/\Z_ w b0 m.s.ts m.s.rs tv rv
theorem Ey.keep(h:Ey w b0 m vs)(a:∀q t,Ah w q t->t≠62->w'.heap[q]?=w.heap[q]?):Ey w' b0 m vs:=by
 obtain⟨fv,tv,rv,h1,h2,c⟩:=h.ex;exact⟨h.ok,fv,tv,rv,h1,I5 h2 (λq b=>a q 67 (N7 h2 b) Z5),Jt c (λq t hT ht=>a q t hT (by rcases ht with rfl|rfl|rfl<;>decide))⟩
theorem Ey.below(h:Ey w b0 m vs)(a:Bw w w'):Ey w' b0 m vs:=h.keep (λq t hT _=>a.block q (Je hT))
theorem Ij{fv:Value}(h:w.ownsRow b0 67 2 fv fs.length (T.U3 fs)):∃fa fc,fv=.slice fa fs.length fc/\T.G6 w fa fs:=T.Ql.form h
theorem zC{x:T.F2}(h:T.Vp fs x 0 gs)(hf:∀i,(fs.getD i T.G9).le 4000):gs.length<=40/\∀i,(gs.getD i T.G9).le 4000:=by
 refine⟨T.TU h,?_⟩;rcases h with⟨_,c,_⟩|⟨_,_,c,_⟩|⟨_,_,_,c,_⟩|⟨ht,hx,_,_,k,hk,rfl⟩
 ·exact absurd c Z5
 ·exact absurd c Z5
 ·exact absurd c Z5
 have d:x.le 4000:=by
  unfold T.Xa X6 at hx;simp only[Ia,rf]at hx;have h1:=hx.1.1;have h2:=hx.2;simp only[Zw]at h1;exact⟨by show x.nm.data.size<=_;omega,O0⟩
 have f:∀y∈T.ins (T.without fs x.nm) k x,y.le 4000:=λy b=>by
  unfold T.ins at b;have hw:∀z∈T.without fs x.nm,z.le 4000:=λz hz=>by
   obtain⟨i,a,e⟩:=T.getD_mem (Iq.1 hz).1;rw[<- e];exact hf i
  rcases Dh.1 b with h|h
  ·exact hw y (zA h)
  rcases Xe.1 h with rfl|h
  ·exact d
  exact hw y (qJ h)
 intro i;by_cases a:i<(T.ins (T.without fs x.nm) k x).length
 ·rw[show(T.ins (T.without fs x.nm) k x).getD i T.G9=(T.ins (T.without fs x.nm) k x)[i] from by simp[List.getD,a]];exact f _ (Zj a)
 rw[show(T.ins (T.without fs x.nm) k x).getD i T.G9=T.G9 from by simp[List.getD,Zb (Js a)]];exact⟨Z5,Z5⟩
theorem UB{n:BY}(h:T.aj fs n 0 gs)(hf:∀i,(fs.getD i T.G9).le 4000):gs.length<=40/\∀i,(gs.getD i T.G9).le 4000:=by
 refine⟨T.oO h,?_⟩;rcases h with⟨_,c,_⟩|⟨_,_,c,_⟩|⟨ht,_,_,rfl⟩
 ·exact absurd c Z5
 ·exact absurd c Z5
 intro i;by_cases a:i<(T.without fs n).length
 ·rw[show(T.without fs n).getD i T.G9=(T.without fs n)[i] from by simp[List.getD,a]];obtain⟨j,hj,e⟩:=T.getD_mem (Iq.1 (Zj a)).1;rw[<- e];exact hf j
 rw[show(T.without fs n).getD i T.G9=T.G9 from by simp[List.getD,Zb (Js a)]];exact⟨Z5,Z5⟩
theorem WT{l:BY}(h:X6 l.data.toList=true):l.size<=20:=by
 unfold X6 at h;simp only[Ia,rf,Zw]at h;exact h.1.2
theorem BL{s:St}(h:Bh s):s.le 1048576:=by
 obtain⟨hw,⟨h1,h2⟩,h3,f⟩:=h;refine⟨⟨O0,λi=>?_⟩,O0,λi=>?_⟩
 ·by_cases a:i<s.ts.length
  ·obtain⟨c,t,hr⟩:=(h2 i a).1;obtain⟨hv,e⟩:=hr.1 rfl;have e:=l7 List.length e;have:=NF hv;simp only[Zw,u_]at e;show(s.ts.getD i ByteArray.empty).data.size<=_;omega
  rw[show s.ts.getD i ByteArray.empty=ByteArray.empty from by simp[List.getD,Zb (Js a)]];decide
 by_cases a:i<s.rs.length;rotate_left
 ·rw[show s.rs.getD i h_=h_ from by simp[List.getD,Zb (Js a)]];exact⟨Z5,Z5,(λk=>⟨by show(0:Nat)<=_;omega,by show(0:Nat)<=_;omega⟩),Z5⟩
 obtain⟨⟨a1,a2,a3⟩,d⟩:=f i a;refine⟨O0,O0,λk=>?_,O0⟩;by_cases b:k<(s.rs.getD i h_).gs.length
 ·have h5:=WT (d k b).1;have h6:=(d k b).2;exact⟨O0,O0⟩
 rw[show(s.rs.getD i h_).gs.getD k zh=zh from by rw[List.getD,Zb (Js b)];rfl];exact⟨by show(0:Nat)<=_;omega,by show(0:Nat)<=_;omega⟩
