import Derived.Test.YtchjpjmcnhjbcaaGreatDooreEO
import Derived.Deep.Heap
import Derived.Test.YtchjpjmcnhjbcaaGreatDoorpA
import Derived.Stop.Asserts
import Derived.RowKitTokens
set_option linter.unusedVariables false
set_option maxHeartbeats 8000000
set_option maxRecDepth 100000
namespace Go.Proofs.YtchjpjmcnhjbcaaGreatDoor
open Proofs.Tryz Go.RowKit
theorem yX (l:List UInt8) (w:World) (a:l.length<=1048700):Calls prog 139 #[.string (J3 l)] w fun e w'=>(∃ t,e=.returned (.string (J3 t))/\t.length<=l.length+1/\∀ q,l=P5 q->t=q)/\Bw w w':=by
 have h:=c139 (J3 l) w (by rw [I5];exact a);rw [I5] at h;exact h
theorem iP (s:BY) (w:World) (h1:1<=s.size) (h16:s.size<=16000) (hw:O1 ((G8 10 s.data.toList).getD 0 [])=Jh):
 Calls prog 95 #[.string s] w fun e w'=>Is4 s.data.toList w' e/\Bw w w':=by
 have hB0:Bw w ((w.alloc (.cells zE.toArray 137)).alloc (.cells zE.toArray 137)):=P6.alloc X4 _;have hsl:s.data.toList.length=s.size:=X4;have HNE:Hid (s.data.toList≠[]):=fun h=>by rw [h] at hsl;simp at hsl;omega
 have hse:(s.toList==[])=false:=by
  rw [ByteArray.toList_eq];exact p_.2 HNE.out
 have a4W:¬ s.toList=[]:=by simpa using hse
 have a4X:decide (16000<(s.size:Int))=false:=U7;go_enter func95,ntmps95
 go_wp2_with fail
 refine (WO s 10 _ O0).mono ?_;rintro e P ⟨⟨g2,cp,rfl,hg2,D⟩,hb1⟩;have a4p:((w.alloc (.cells zE.toArray 137)).alloc (.cells zE.toArray 137)).heap.size=w.heap.size+2:=X4;have v:Below (w.heap.size+2) ((w.alloc (.cells zE.toArray 137)).alloc (.cells zE.toArray 137)) P:=hb1.mono X4;have a4u:w.heap.size+2<=g2:=by have h:=hg2;simp at h;omega
 have hz1:w.heap.size+2<=P.heap.size:=by have h:=v.size;rw [a4p] at h;exact h
 have bR1:=((Z7 w zE 137).below P6 X4).below v O0;have oR1:=((Qa w zE.toArray 137).below P6 X4).below v O0;have bM1:=D5.below (by have h:=Z7 (w.alloc (.cells zE.toArray 137)) zE 137;simp at h;exact h) v O0;have oM1:=X6.below (by have h:=Qa (w.alloc (.cells zE.toArray 137)) zE.toArray 137;simp at h;exact h) v O0;have H:=hB0.trans (v.mono O0);have J:=gm 10 s.data.toList;have Y:=ah 10 s.data.toList;clear hb1 hg2 a4p v;obtain ⟨y,Z⟩:∃ y,y=G8 10 s.data.toList:=⟨_,rfl⟩;rw [<- Z] at D J Y hw ⊢;have HLS:=U0 Z.symm;have HCS:Hid (∀ k,(y.getD k []).length<=16000):=fun k=>G7 (Y k) O0;obtain ⟨F,hF⟩:∃ F,F=y.getD 0 []:=⟨_,rfl⟩;have HF:=U0 hF.symm;have hFl:F.length<=16000:=by rw [hF];exact HCS.out 0
 rw [<- hF] at hw;have a4v:=J.1;have a4P:y.length<=16001:=by have:=J.2;omega
 have c0:P.cell? (aA g2 0)=some (vS (J3 F)):=by rw [hF];exact D.2 0 a4v
 have a4w:=D.1;clear hF Z Y J
 go_wp2_with fail
 refine (Es F _ O0 1 O0 O0).mono ?_;rintro e r ⟨⟨g3,cp3,rfl,hg3,V⟩,n⟩;have hz3:=n.size;have bR:=D5.below bR1 n O0;have oR:=X6.below oR1 n O0;have bM:=D5.below bM1 n O0;have Q:=X6.below oM1 n O0;have hL3:=U0 (lg D n);have hB3:=X5 H n;have d0:r.cell? (aA g3 0)=some (vS (J3 (O1 F))):=V.2 0 (by simp [A_]);have a4F:=V.1;have hrs:=D8 F;have hrN:J3 (Q9 F 1)=J3 (Y1 F):=rfl;rw [hrN];clear hrN n bR1 oR1 bM1 oM1 D H V c0 hB0;have hMz:w.heap.size+1<r.heap.size:=O0;have hRB:w.heap.size<w.heap.size+1:=O0;have a4G:w.heap.size+1<g3:=O0;have a4Q:w.heap.size+1<g2:=O0;have a4x:g2<r.heap.size:=O0;clear hg3 a4w a4u hz1 hz3;generalize w.heap.size+1=a at*;have HXg:=fun t ht=>a0F (l:=s.data.toList) (F:=F) (t:=t) (by rw [HLS.out];exact HF.out) hw ht;have HW:=U0 hw;have hes:J3 (O1 F)=⟨#[102,105,108,101]⟩:=by rw [hw];rfl
 rw [hes] at d0;clear hw hes;have k0:=bM 0 _ rfl;have f0:=Q 0;have a4O:=D8 (Y1 F);have a4Y:=D8 (Y1 (Y1 F))
 go_wp2_with fail
 refine (Es (Y1 F) _ O0 1 O0 O0).mono ?_;rintro e I ⟨⟨g4,cp4,rfl,X,R⟩,m⟩;have f:(r.setCell (aA a 0) (vI 2)).heap.size=r.heap.size:=X4;have hz4:r.heap.size<=I.heap.size:=by have h:=m.size;rw [f] at h;exact h
 have bM4:=D5.below (bM.set 0 (vI 2) (by show 0<10;omega)) m (by rw [f];exact hMz);have oM4:=X6.below (Q.set (aA a 0) (vI 2)) m (by rw [f];exact hMz);have bR4:=D5.below (bR.other (aA a 0) (vI 2) (by show a≠w.heap.size;omega)) m (by rw [f];omega);have oR4:=X6.below (oR.set (aA a 0) (vI 2)) m (by rw [f];omega);have hB4:=(hB3.setCell (by show w.heap.size<=a;omega) _).trans (m.mono (by rw [f];omega));have a5j:r.heap.size<=g4:=by rw [f] at X;exact X
 have a4q:=R.1;have hL4:Hid (Xb I g2 y):=⟨O0,fun i W=>(m.cell (p:=(aA g2 i)) (by rw [f];exact a4x)).trans (EP (q:=(aA a 0)) (p:=(aA g2 i)) (by show a≠g2;omega) (hL3.out.2 i W) _)⟩;have e0:I.cell? (aA g4 0)=some (vS (J3 (O1 (Y1 F)))):=R.2 0 (by simp [A_]);have a5k:J3 (Q9 (Y1 F) 1)=J3 (Y1 (Y1 F)):=rfl;rw [a5k];clear a5k m f bM Q bR oR hB3 R X hL3 d0 k0 f0;have a1:(O1 (Y1 F)).length<=16000:=O0;have a2:(Y1 (Y1 F)).length<=16000:=O0;clear hrs a4O a4Y;generalize O1 (Y1 F)=b at*;generalize Y1 (Y1 F)=A2 at*
 go_wp2_with fail
 refine wp_region_held_drew (S:=(fun u=>u.cell? (aA g4 0)=some (vS (J3 b)))) Y2 ?_ fun hHeld=>?_
 · exact e0
 refine Y0 0 ?_;refine Y0 1 ?_;refine Y0 2 ?_;refine Y0 3 ?_;refine rq 4 fun K E=>?_;go_simp;refine (yX A2 _ O0).mono ?_;rintro e d ⟨⟨t,rfl,htl,htq⟩,hbn⟩;have j:Bw I d:=((Z4 _ _).drew).trans hbn;have HTQ:=U0 htq;clear hbn htq
 go_wp2_with fail
 clear hHeld;refine E8 E ?_ fun hHeld=>?_
 · exact (j.cell (p:=(aA g4 0)) a4q).trans e0
 clear E K;refine Y0 5 ?_;refine Y0 6 ?_;have L:=D5.below bM4 j O0;have oM5:=X6.below oM4 j O0;have e5:=(j.cell (p:=(aA g4 0)) a4q).trans e0;refine rq 7 fun K E=>?_;refine Ea rfl 133 (.tmp 52) (.tmp 51) rfl a 2 rfl [vS (J3 b),vS (J3 t)] rfl (fun i W=>by rcases i with _ | _ | i;exact (by rw [L 2 _ rfl];rfl);exact (by rw [L 3 _ rfl];rfl);simp at W;omega) oM5 (by simp [Value.oneCell']) Y2 rfl ?_;clear hHeld;refine E8 E ?_ fun hHeld=>?_
 · exact (M_ _ 2 (aA g4 0) (by show g4≠a;omega)).trans e5
 clear E K;refine wdn ?_;clear hHeld;have hz5:=j.size;have bR5:=D5.below bR4 j O0;have oR5:=X6.below oR4 j O0;have hB5:=X5 hB4 j;have N:=U0 (HXg t HTQ.out);have HM:D5 (fill d a 2 [vS (J3 b),vS (J3 t)]) a ((Ib (J3 b) (J3 t)).c none 0):=D5.fill (B:=a) [vS (J3 b),vS (J3 t)] [vI 2,vO] [vE,vE] [vE,vE,vE,vN,vO,vE] 2 L rfl rfl;have HR:D5 (fill d a 2 [vS (J3 b),vS (J3 t)]) w.heap.size zE:=D5.IX O0 _ 2 bR5;have HO:X6 (fill d a 2 [vS (J3 b),vS (J3 t)]) w.heap.size:=X6.fill _ 2 oR5;have hBU:Bw w (fill d a 2 [vS (J3 b),vS (J3 t)]):=x_ O0 _ 2 hB5;have hMU:a<(fill d a 2 [vS (J3 b),vS (J3 t)]).heap.size:=by rw [Vf];omega
 have hRU:w.heap.size<(fill d a 2 [vS (J3 b),vS (J3 t)]).heap.size:=by rw [Vf];omega
 have HLK:o9 (fill d a 2 [vS (J3 b),vS (J3 t)]) none (Ib (J3 b) (J3 t)).ls:=.inl rfl;have hle:(Ib (J3 b) (J3 t)).le 1048576:=⟨by show (J3 b).size<=1048576;rw [I5];omega,by show (J3 t).size<=1048576;rw [I5];omega,⟨J4 _,J4 _,J4 _⟩,⟨J4 _,fun _=>⟨J4 _,J4 _⟩⟩,J4 _⟩;have a4H:∀ g o,(none:OA)=some (aA g o)->g≠w.heap.size:=fun _ _ h=>by cases h
 clear bM4 oM4 L oM5 bR4 oR4 bR5 oR5 hB4 hB5 j HXg e0 e5;generalize fill d a 2 [vS (J3 b),vS (J3 t)]=U at*;generalize J3 b=C at*;generalize J3 t=A at*
 go_wp2_with (refine Z_ (by rfl) 137 (.tmp 4) rfl a rfl ((Ib C A).c none 0) _ HM underlying137 rfl Y2 ?_)
 refine (nN (Ib C A) none 0 _ hle HLK).mono ?_;rintro e U1 ⟨⟨z,rfl,hT⟩,x⟩;have HM1:=D5.below HM x hMU;have O:=D5.below HR x hRU;have HO1:=X6.below HO x hRU;have H:=X5 hBU x;have a4I:=l7 HLK x;clear HM HR HO HLK hBU x;by_cases he:z.data.toList=s.data.toList
 · have HN:=U0 (Qp N.out hT HNE.out he);have e2:z.toList=s.toList:=by rw [ByteArray.toList_eq,ByteArray.toList_eq];exact he
   have e1:(z.toList==s.toList)=true:=by simpa using e2
   clear hT N he
   go_wp2_with (first | refine Xa rfl 137 (.tmp 4) rfl a rfl ((Ib C A).c none 0) _ HM1 underlying137 rfl Y2 ?_ | refine N7 rfl 137 (.tmp 2) (.tmp 123) rfl w.heap.size 0 rfl ((Ib C A).c none 0) rfl (V9 O _ rfl) HO1 (g_.bC _ _ _) Y2 rfl ?_)
   exact RI (Ib C A) none 0 true HN.out (fun h=>by cases h) hle (Gl _ a4I a4H) rfl rfl rfl O H
 · have HN:=U0 (Yt N.out hT he);have e2:¬ z.toList=s.toList:=by rw [ByteArray.toList_eq,ByteArray.toList_eq];exact he
   have e1:(z.toList==s.toList)=false:=by simpa using e2
   clear hT N he
   go_wp2_with (refine N7 rfl 137 (.tmp 2) (.tmp 122) rfl w.heap.size 0 rfl zE rfl (V9 O zE rfl) HO1 (by simp [zE,Value.oneCell']) Y2 rfl ?_)
   exact Oj HN.out rfl rfl rfl O H
theorem aX (s:BY) (w:World) (h1:1<=s.size) (h16:s.size<=16000) (hw:O1 ((G8 10 s.data.toList).getD 0 [])=Wj):
 Calls prog 95 #[.string s] w fun e w'=>Is4 s.data.toList w' e/\Bw w w':=by
 have hB0:Bw w ((w.alloc (.cells zE.toArray 137)).alloc (.cells zE.toArray 137)):=P6.alloc X4 _;have hsl:s.data.toList.length=s.size:=X4;have HNE:Hid (s.data.toList≠[]):=fun h=>by rw [h] at hsl;simp at hsl;omega
 have hse:(s.toList==[])=false:=by
  rw [ByteArray.toList_eq];exact p_.2 HNE.out
 have a4W:¬ s.toList=[]:=by simpa using hse
 have a4X:decide (16000<(s.size:Int))=false:=U7;go_enter func95,ntmps95
 go_wp2_with fail
 refine (WO s 10 _ O0).mono ?_;rintro e w1 ⟨⟨g2,cp,rfl,hg2,hL1⟩,hb1⟩;have a4p:((w.alloc (.cells zE.toArray 137)).alloc (.cells zE.toArray 137)).heap.size=w.heap.size+2:=X4;have Q:Below (w.heap.size+2) ((w.alloc (.cells zE.toArray 137)).alloc (.cells zE.toArray 137)) w1:=hb1.mono X4;have a4u:w.heap.size+2<=g2:=by have h:=hg2;simp at h;omega
 have hz1:w.heap.size+2<=w1.heap.size:=by have h:=Q.size;rw [a4p] at h;exact h
 have bR1:=((Z7 w zE 137).below P6 X4).below Q O0;have oR1:=((Qa w zE.toArray 137).below P6 X4).below Q O0;have bM1:=D5.below (by have h:=Z7 (w.alloc (.cells zE.toArray 137)) zE 137;simp at h;exact h) Q O0;have oM1:=X6.below (by have h:=Qa (w.alloc (.cells zE.toArray 137)) zE.toArray 137;simp at h;exact h) Q O0;have hB1:=hB0.trans (Q.mono O0);have hcl:=gm 10 s.data.toList;have hcs:=ah 10 s.data.toList;clear hb1 hg2 a4p Q;obtain ⟨f,hLs⟩:∃ f,f=G8 10 s.data.toList:=⟨_,rfl⟩;rw [<- hLs] at hL1 hcl hcs hw ⊢;have HLS:=U0 hLs.symm;have HCS:Hid (∀ k,(f.getD k []).length<=16000):=fun k=>G7 (hcs k) O0;obtain ⟨F,hF⟩:∃ F,F=f.getD 0 []:=⟨_,rfl⟩;have HF:=U0 hF.symm;have hFl:F.length<=16000:=by rw [hF];exact HCS.out 0
 rw [<- hF] at hw;have a4v:=hcl.1;have a4P:f.length<=16001:=by have:=hcl.2;omega
 have c0:w1.cell? (aA g2 0)=some (vS (J3 F)):=by rw [hF];exact hL1.2 0 a4v
 have a4w:=hL1.1;clear hF hLs hcs hcl
 go_wp2_with fail
 refine (Es F _ O0 1 O0 O0).mono ?_;rintro e P ⟨⟨g3,cp3,rfl,hg3,hl3⟩,N⟩;have hz3:=N.size;have bR:=D5.below bR1 N O0;have I:=X6.below oR1 N O0;have C:=D5.below bM1 N O0;have J:=X6.below oM1 N O0;have hL3:=U0 (lg hL1 N);have hB3:=X5 hB1 N;have d0:P.cell? (aA g3 0)=some (vS (J3 (O1 F))):=hl3.2 0 (by simp [A_]);have a4F:=hl3.1;have hrs:=D8 F;have hrN:J3 (Q9 F 1)=J3 (Y1 F):=rfl;rw [hrN];clear hrN N bR1 oR1 bM1 oM1 hL1 hB1 hl3 c0 hB0;have hMz:w.heap.size+1<P.heap.size:=O0;have hRB:w.heap.size<w.heap.size+1:=O0;have a4G:w.heap.size+1<g3:=O0;have a4Q:w.heap.size+1<g2:=O0;have a4x:g2<P.heap.size:=O0;clear hg3 a4w a4u hz1 hz3;generalize w.heap.size+1=a at*;have HXg:=fun q xs c t hq hs=>a0W (l:=s.data.toList) (F:=F) (q:=q) (xs:=xs) (c:=c) (t:=t) (by rw [HLS.out];exact HF.out) hw hq (by rw [HLS.out];exact hs);have HW:=U0 hw;have hes:J3 (O1 F)=⟨#[114,97,110]⟩:=by rw [hw];rfl
 rw [hes] at d0;clear hw hes;have k0:=C 0 _ rfl;have f0:=J 0;have a4O:=D8 (Y1 F);have a4Y:=D8 (Y1 (Y1 F))
 go_wp2_with fail
 refine (Es (Y1 F) _ O0 2 O0 O0).mono ?_;rintro e w4 ⟨⟨g4,cp4,rfl,hg4,hl4⟩,L⟩;have D:(P.setCell (aA a 0) (vI 4)).heap.size=P.heap.size:=X4;have hz4:P.heap.size<=w4.heap.size:=by have h:=L.size;rw [D] at h;exact h
 have bM4:=D5.below (C.set 0 (vI 4) (by show 0<10;omega)) L (by rw [D];exact hMz);have oM4:=X6.below (J.set (aA a 0) (vI 4)) L (by rw [D];exact hMz);have bR4:=D5.below (bR.other (aA a 0) (vI 4) (by show a≠w.heap.size;omega)) L (by rw [D];omega);have oR4:=X6.below (I.set (aA a 0) (vI 4)) L (by rw [D];omega);have hB4:=(hB3.setCell (by show w.heap.size<=a;omega) _).trans (L.mono (by rw [D];omega));have a5j:P.heap.size<=g4:=by rw [D] at hg4;exact hg4
 have a4q:=hl4.1;have hL4:Hid (Xb w4 g2 f):=⟨O0,fun i r=>(L.cell (p:=(aA g2 i)) (by rw [D];exact a4x)).trans (EP (q:=(aA a 0)) (p:=(aA g2 i)) (by show a≠g2;omega) (hL3.out.2 i r) _)⟩;have a5Z:=D8 (Q9 (Y1 F) 1);have e0:w4.cell? (aA g4 0)=some (vS (J3 (O1 (Y1 F)))):=hl4.2 0 (by simp [A_]);have e1:w4.cell? (aA g4 1)=some (vS (J3 (O1 (Q9 (Y1 F) 1)))):=hl4.2 1 (by simp [A_]);obtain ⟨j0,H,hy0,hy1,hy2⟩:=info_parts VJ;have hrl:=Qi (Y1 F);have a1:(O1 (Y1 F)).length<=16000:=O0;have a2:(O1 (Q9 (Y1 F) 1)).length<=16000:=by have h:=hrl 1;omega
 have a3:(Q9 (Y1 F) 2).length<=16000:=by have h:=hrl 2;omega
 clear L D C J bR I hB3 hl4 hg4 hL3 d0 k0 f0 hrs a4O a4Y a5Z hrl;generalize Q9 (Y1 F) 2=A3 at*;generalize O1 (Q9 (Y1 F) 1)=b at*;generalize O1 (Y1 F)=d at*
 go_wp2_with fail
 refine wp_region_held_drew (S:=(fun u=>u.cell? (aA g4 0)=some (vS (J3 d))/\u.cell? (aA g4 1)=some (vS (J3 b)))) Y2 ?_ fun hHeld=>?_
 · exact ⟨e0,e1⟩
 refine Y0 0 ?_;refine Y0 1 ?_;refine Y0 2 ?_;refine Y0 3 ?_;refine Y0 4 ?_;refine Y0 5 ?_;refine Y0 6 ?_;refine rq 7 fun K hK=>?_;go_simp;refine (yX A3 _ O0).mono ?_;rintro e m ⟨⟨q,rfl,htl,htq⟩,hbn⟩;have n:Bw w4 m:=((Z4 _ _).drew).trans hbn;have HTQ:=U0 htq;clear hbn htq
 go_wp2_with fail
 clear hHeld;refine E8 hK ?_ fun hHeld=>?_
 · exact ⟨(n.cell (p:=(aA g4 0)) a4q).trans e0,(n.cell (p:=(aA g4 1)) a4q).trans e1⟩
 clear hK K;refine Y0 8 ?_;refine Y0 9 ?_;have bM5:=D5.below bM4 n O0;have oM5:=X6.below oM4 n O0;have e5:=(n.cell (p:=(aA g4 0)) a4q).trans e0;have e6:=(n.cell (p:=(aA g4 1)) a4q).trans e1;refine rq 10 fun K hK=>?_;refine Ea rfl 135 (.tmp 79) (.tmp 78) rfl a 4 rfl [vS (J3 d),vS (J3 b),vS (J3 q)] rfl (fun i r=>by rcases i with _ | _ | _ | i;exact (by rw [bM5 4 _ rfl];rfl);exact (by rw [bM5 5 _ rfl];rfl);exact (by rw [bM5 6 _ rfl];rfl);simp at r;omega) oM5 (by simp [Value.oneCell']) Y2 rfl ?_;clear hHeld;refine E8 hK ?_ fun hHeld=>?_
 · exact ⟨(M_ _ 4 (aA g4 0) (by show g4≠a;omega)).trans e5,(M_ _ 4 (aA g4 1) (by show g4≠a;omega)).trans e6⟩
 clear hK K;refine wdn ?_;clear hHeld;have hz5:=n.size;have a5l:=D5.below bR4 n O0;have a5m:=X6.below oR4 n O0;have a5n:=X5 hB4 n;have hL5':=lg hL4.out n;have bM6:D5 (fill m a 4 [vS (J3 d),vS (J3 b),vS (J3 q)]) a [vI 4,vO,vE,vE,vS (J3 d),vS (J3 b),vS (J3 q),vN,vO,vE]:=D5.fill (B:=a) [vS (J3 d),vS (J3 b),vS (J3 q)] [vI 4,vO,vE,vE] [vE,vE,vE] [vN,vO,vE] 4 bM5 rfl rfl;have oM6:X6 (fill m a 4 [vS (J3 d),vS (J3 b),vS (J3 q)]) a:=X6.fill _ 4 oM5;have bR6:D5 (fill m a 4 [vS (J3 d),vS (J3 b),vS (J3 q)]) w.heap.size zE:=D5.IX O0 _ 4 a5l;have oR6:X6 (fill m a 4 [vS (J3 d),vS (J3 b),vS (J3 q)]) w.heap.size:=X6.fill _ 4 a5m;have hB6:Bw w (fill m a 4 [vS (J3 d),vS (J3 b),vS (J3 q)]):=x_ O0 _ 4 a5n;have hz6:(fill m a 4 [vS (J3 d),vS (J3 b),vS (J3 q)]).heap.size=m.heap.size:=Vf _ _;have hL6:Xb (fill m a 4 [vS (J3 d),vS (J3 b),vS (J3 q)]) g2 f:=⟨by rw [hz6];exact hL5'.1,fun i r=>(M_ _ 4 (aA g2 i) (by show g2≠a;omega)).trans (hL5'.2 i r)⟩;have a5o:g2<m.heap.size:=O0;have hMw:a<m.heap.size:=O0;rw [<- hz6] at a5o hMw;clear hz6 n bM4 oM4 bM5 oM5 bR4 oR4 a5l a5m hB4 a5n hL5' hL4 e0 e1 e5 e6;generalize fill m a 4 [vS (J3 d),vS (J3 b),vS (J3 q)]=w6 at*;obtain ⟨z,a6a⟩:∃ z,z=w6.heap.size:=⟨_,rfl⟩;have A:a<z:=O0;have hgB:g2<z:=O0;have X:w.heap.size<z:=O0;clear a5j a4q hz4 hz5 hMz a4x a4F a4G
 go_wp2_with fail
 go_loopw [12] (fun i wr=>∃ (k:Nat) (xs:List L4) (v:Value) (c:Int) (t:ByteArray),(1<=k/\k<=f.length/\xs.length<=k)/\i=.int .i64 k/\wr.ownsRow z 185 4 v xs.length (BH xs)/\D5 wr a [.int .i64 4,.int .i64 0,.string ⟨#[]⟩,.string ⟨#[]⟩,.string (J3 d),.string (J3 b),.string (J3 q),v,.int .i64 c,.string t]/\X6 wr a/\D5 wr w.heap.size zE/\X6 wr w.heap.size/\Xb wr g2 f/\Below w.heap.size w wr/\z<=wr.heap.size/\Hid (Jw f k xs c t/\(∀ j,(xs.getD j E_).le 1048576)/\t.size<=1048576)) (fun i _=>f.length - (RowKit.intOf i).toNat)
 case atStart=>exact ⟨1,[],vN,0,⟨#[]⟩,⟨v_ _,O0,J4 _⟩,rfl,⟨rfl,.inl ⟨rfl,rfl⟩⟩,bM6,oM6,bR6,oR6,hL6,hB6,O0,⟨dO _ _ _,fun _=>⟨J4 _,J4 _⟩,J4 _⟩⟩
 case round=>
  clear bM6 oM6 bR6 oR6 hL6 hB6 a6a a5o hMw;obtain ⟨k,xs,v,c,t,⟨hk1,hk2,hk3⟩,rfl,hown,C,J,bR,I,O,hB,hz,E⟩:=hrel;by_cases hlt:k<f.length
  · have ck:=O.2 k hlt;have hT:=HCS.out k;have a4A:=fun x h=>ZW (x:=x) E.out.1 hk1 hlt h;have a4B:=fun x c2 t2 h U hr=>oZ (x:=x) (c2:=c2) (t2:=t2) E.out.1 hk1 hlt h U hr;have a4C:=fun x h U=>yU (x:=x) E.out.1 hk1 hlt h U;have a5p:=E.out.2;clear E;generalize f.getD k []=T at*;have a4A:Hid _:=a4A;have a4B:Hid _:=a4B;have a4C:Hid _:=a4C;have HXS:Hid _:=a5p;clear a5p
    go_wp2_with fail
    refine (a0J T _ hT).mono ?_;rintro e w7 ⟨⟨x,ok,rfl,hls,a6b⟩,hb7⟩;have HLL:=U0 hls;have a4r:=Du hown hb7;have hz7:=hb7.size;have a6c:=hb7.mono hz;have R:=X5 hB hb7;have oa:∀ o,Below z wr (w7.alloc o):=fun o=>a6c.alloc O0 o;clear hls hb7 hown;unfold L4.v;cases ok
    · have ck7:∀ o,(w7.alloc o).cell? (aA g2 k)=some (vS (J3 T)):=fun o=>((oa o).cell (p:=(aA g2 k)) hgB).trans ck;by_cases U:5<T.length
      · have h5':decide ((5:Int)<((J3 T).size:Int))=true:=by rw [I5];simp;omega
        have h5n:5<=(J3 T).size:=by rw [I5];omega
        have hex:(J3 T).extract 5 (J3 T).size=J3 (T.drop 5):=Qb (by rw [ext_list,I5,L9,l_ O0])
        go_wp2_with fail
        refine (c141 (T.drop 5) _ (by rw [yj];omega)).mono ?_;rintro e w8 ⟨⟨c2,t2,rfl,hr8,ht8⟩,y⟩;have HSO:Hid (Jw f (k+1) xs c2 t2/\(∀ j,(xs.getD j E_).le 1048576)/\t2.size<=1048576):=⟨a4B.out x c2 t2 HLL.out U hr8,HXS.out.1,ht8⟩;have a4J:=(oa _).trans (y.mono U7);have a4z:=Du (a4r.alloc _) y;have hB8:=(R.alloc R.size _).trans (y.mono (by have:=R.size;simp;omega));have hz8:wr.heap.size<=w8.heap.size:=by have h:=y.size;simp at h;omega
        have Z:=C.below a4J A;have V:=J.below a4J A;have k8:=Z 8 _ rfl;have f8:=V 8;have k9:=Z 9 _ rfl;have f9:=V 9;clear hr8 y a4A a4B a4C;go_wp2;go_roundw
        case rel=>
         exact ⟨k+1,xs,v,c2,t2,⟨O0,O0,O0⟩,by go_num,Tz (Tz a4z (aA a 8) _ A) (aA a 9) _ A,(Z.set 8 (vI c2) (by show 8<10;omega)).set 9 (vS t2) (by show 9<10;omega),(V.set _ _).set _ _,((bR.below a4J X).other _ _ (by show a≠w.heap.size;omega)).other _ _ (by show a≠w.heap.size;omega),((I.below a4J X).set _ _).set _ _,⟨by have:=O.1;simp;omega,fun i r=>EP (q:=(aA a 9)) (p:=(aA g2 i)) (by show a≠g2;omega) (EP (q:=(aA a 8)) (p:=(aA g2 i)) (by show a≠g2;omega) ((a4J.cell (p:=(aA g2 i)) hgB).trans (O.2 i r)) _) _⟩,(hB8.setCell (by show w.heap.size<=a;omega) _).setCell (by show w.heap.size<=a;omega) _,U7,HSO⟩
        case measure=>simp [RowKit.intOf];omega
      · have h5':decide ((5:Int)<((J3 T).size:Int))=false:=by rw [I5];simp;omega
        have HSO:Hid (Jw f (k+1) xs c t/\(∀ j,(xs.getD j E_).le 1048576)/\t.size<=1048576):=⟨a4C.out x HLL.out U,HXS.out⟩;clear a4A a4B a4C U;go_wp2;go_roundw
        case rel=>exact ⟨k+1,xs,v,c,t,⟨O0,O0,O0⟩,by go_num,a4r.alloc _,C.below (oa _) A,J.below (oa _) A,bR.below (oa _) X,I.below (oa _) X,⟨by have:=O.1;simp;omega,fun i r=>((oa _).cell (p:=(aA g2 i)) hgB).trans (O.2 i r)⟩,R.alloc R.size _,U7,HSO⟩
        case measure=>simp [RowKit.intOf];omega
    · have HSO:Hid (Jw f (k+1) (xs++[x]) c t/\(∀ j,((xs++[x]).getD j E_).le 1048576)/\t.size<=1048576):=⟨a4A.out x HLL.out,fun j=>by
       rcases Q7 j xs.length with H | H
       · have:(xs++[x]).getD j E_=xs.getD j E_:=by
          simp only [Fj];rw [S_ H]
         rw [this];exact HXS.out.1 j
       · by_cases hj2:j=xs.length
         · have:(xs++[x]).getD j E_=x:=by
            simp only [Fj];rw [Ue H,hj2];simp
           rw [this];exact a6b
         · have:(xs++[x]).getD j E_=E_:=by
            simp only [Fj];rw [Yb U7];rfl
           rw [this];exact ⟨J4 _,J4 _⟩,HXS.out.2⟩
      clear a4A a4B a4C;have k7a:=fun o=>C.below (oa o) A 7 _ rfl;have oaa:∀ o o',Below z wr ((w7.alloc o).alloc o'):=fun o o'=>(oa o).alloc U7 o'
      go_wp2_with (at_builtin;refine wpList_append_own _ rfl _ _ 102 rfl z 185 j0 (.agg #[.bool false,.string ⟨#[]⟩,.int .i64 0,.string ⟨#[]⟩]) 4 48 underlying102 H hy0 hy1 hy2 rfl o6 _ _ _ rfl ((a4r.alloc _).alloc _) ⟨w7.heap.size+1,0,none⟩ 1 1 [_,_,_,_] rfl rfl (vX X4 _ _ _ _ _) (by intro u hu;simp at hu;rcases hu with rfl | rfl | rfl | rfl <;> rfl) (by unfold maxLen;omega) O0 U7 ?_;intro v' w8 a4z hgrow _;have y:Below z wr w8:=(oaa _ _).grown hgrow U7 (fun j H=>(a4r.lt j H).1);have hB8:Bw w w8:=((R.alloc R.size _).alloc U7 _).grown hgrow U7 (fun j H=>by have:=(a4r.lt j H).1;omega);have hz8:w7.heap.size<=w8.heap.size:=(by have:=hgrow.size;simp at this;omega);clear hgrow;obtain ⟨g8,cp8,hv8⟩:=ul a4z O0;subst hv8;have Z:=C.below y A;have V:=J.below y A;have k7:=Z 7 _ rfl;have f7:=V 7)
      go_roundw
      case rel=>
       refine ⟨k+1,xs++[x],vL (some (aA g8 0)) (xs.length+1) cp8,c,t,⟨O0,O0,U7⟩,by go_num,?_,?_,V.set _ _,(bR.below y X).other _ _ (by show a≠w.heap.size;omega),(I.below y X).set _ _,⟨by have:=O.1;simp;omega,fun i r=>EP (q:=(aA a 7)) (p:=(aA g2 i)) (by show a≠g2;omega) ((y.cell (p:=(aA g2 i)) hgB).trans (O.2 i r)) _⟩,hB8.setCell (by show w.heap.size<=a;omega) _,U7,HSO⟩
       · rw [D9,vH];exact Tz a4z (aA a 7) _ A
       · exact Z.set 7 _ (by show 7<10;omega)
      case measure=>simp [RowKit.intOf];omega
  · obtain rfl:k=f.length:=O0;have HX:=U0 (HXg q xs c t HTQ.out E.out.1);have hxl:=E.out.2.1;have htx:=E.out.2.2;obtain ⟨ao,Y,hv,hlk⟩:=gK hown rfl;subst hv;have a4H:∀ g o,ao=some (aA g o)->g≠w.heap.size:=fun g o h=>by
     subst h;have:=(hown.lt g rfl).1;omega
    have HM:D5 wr a ((og ⟨J3 d,J3 b,J3 q⟩ xs c t).c ao Y):=C;have HR:=bR;have HO:=I;have hBU:=hB;have hMU:a<wr.heap.size:=O0;have hRU:w.heap.size<wr.heap.size:=O0;have HLK:o9 wr ao (og ⟨J3 d,J3 b,J3 q⟩ xs c t).ls:=hlk.at';have hle:(og ⟨J3 d,J3 b,J3 q⟩ xs c t).le 1048576:=⟨J4 _,J4 _,⟨by show (J3 d).size<=1048576;rw [I5];omega,by show (J3 b).size<=1048576;rw [I5];omega,by show (J3 q).size<=1048576;rw [I5];omega⟩,⟨by show xs.length<=1048576;omega,hxl⟩,htx⟩;clear E hown hlk C J bR I O hB HXg hxl htx;generalize og ⟨J3 d,J3 b,J3 q⟩ xs c t=XX at*
    go_wp2_with (refine Z_ (by rfl) 137 (.tmp 4) rfl a rfl ((XX).c ao Y) _ HM underlying137 rfl Y2 ?_)
    refine (nN (XX) ao Y _ hle HLK).mono ?_;rintro e U1 ⟨⟨str,rfl,hT⟩,W⟩;have HM1:=D5.below HM W hMU;have HR1:=D5.below HR W hRU;have HO1:=X6.below HO W hRU;have hB1:=X5 hBU W;have a4I:=l7 HLK W;clear HM HR HO HLK hBU W;by_cases he:str.data.toList=s.data.toList
    · have HN:=U0 (Qp HX.out hT HNE.out he);have e2:str.toList=s.toList:=by rw [ByteArray.toList_eq,ByteArray.toList_eq];exact he
      have e1:(str.toList==s.toList)=true:=by simpa using e2
      clear hT HX he
      go_wp2_with (first | refine Xa rfl 137 (.tmp 4) rfl a rfl ((XX).c ao Y) _ HM1 underlying137 rfl Y2 ?_ | refine N7 rfl 137 (.tmp 2) (.tmp 123) rfl w.heap.size 0 rfl ((XX).c ao Y) rfl (V9 HR1 _ rfl) HO1 (g_.bC _ _ _) Y2 rfl ?_)
      exact RI (XX) ao Y true HN.out (fun h=>by cases h) hle (Gl _ a4I a4H) rfl rfl rfl HR1 hB1
    · have HN:=U0 (Yt HX.out hT he);have e2:¬ str.toList=s.toList:=by rw [ByteArray.toList_eq,ByteArray.toList_eq];exact he
      have e1:(str.toList==s.toList)=false:=by simpa using e2
      clear hT HX he
      go_wp2_with (refine N7 rfl 137 (.tmp 2) (.tmp 122) rfl w.heap.size 0 rfl zE rfl (V9 HR1 zE rfl) HO1 (by simp [zE,Value.oneCell']) Y2 rfl ?_)
      exact Oj HN.out rfl rfl rfl HR1 hB1
theorem QD (s:BY) (w:World) (h1:1<=s.size) (h16:s.size<=16000) (hw:O1 ((G8 10 s.data.toList).getD 0 [])=Jg\/O1 ((G8 10 s.data.toList).getD 0 [])=Zg\/O1 ((G8 10 s.data.toList).getD 0 [])=Bd):
 Calls prog 95 #[.string s] w fun e w'=>Is4 s.data.toList w' e/\Bw w w':=by
 have hB0:Bw w ((w.alloc (.cells zE.toArray 137)).alloc (.cells zE.toArray 137)):=P6.alloc X4 _;have hsl:s.data.toList.length=s.size:=X4;have W:Hid (s.data.toList≠[]):=fun h=>by rw [h] at hsl;simp at hsl;omega
 have hse:(s.toList==[])=false:=by
  rw [ByteArray.toList_eq];exact p_.2 W.out
 have a4W:¬ s.toList=[]:=by simpa using hse
 have a4X:decide (16000<(s.size:Int))=false:=U7;go_enter func95,ntmps95
 go_wp2_with fail
 refine (WO s 10 _ O0).mono ?_;rintro e X ⟨⟨g2,cp,rfl,hg2,P⟩,hb1⟩;have a4p:((w.alloc (.cells zE.toArray 137)).alloc (.cells zE.toArray 137)).heap.size=w.heap.size+2:=X4;have H:Below (w.heap.size+2) ((w.alloc (.cells zE.toArray 137)).alloc (.cells zE.toArray 137)) X:=hb1.mono X4;have a4u:w.heap.size+2<=g2:=by have h:=hg2;simp at h;omega
 have hz1:w.heap.size+2<=X.heap.size:=by have h:=H.size;rw [a4p] at h;exact h
 have bR1:=((Z7 w zE 137).below P6 X4).below H O0;have oR1:=((Qa w zE.toArray 137).below P6 X4).below H O0;have bM1:=D5.below (by have h:=Z7 (w.alloc (.cells zE.toArray 137)) zE 137;simp at h;exact h) H O0;have oM1:=X6.below (by have h:=Qa (w.alloc (.cells zE.toArray 137)) zE.toArray 137;simp at h;exact h) H O0;have l:=hB0.trans (H.mono O0);have V:=gm 10 s.data.toList;have Z:=ah 10 s.data.toList;clear hb1 hg2 a4p H;obtain ⟨R,hLs⟩:∃ R,R=G8 10 s.data.toList:=⟨_,rfl⟩;rw [<- hLs] at P V Z hw ⊢;have HLS:=U0 hLs.symm;have HCS:Hid (∀ k,(R.getD k []).length<=16000):=fun k=>G7 (Z k) O0;obtain ⟨F,hF⟩:∃ F,F=R.getD 0 []:=⟨_,rfl⟩;have HF:=U0 hF.symm;have hFl:F.length<=16000:=by rw [hF];exact HCS.out 0
 rw [<- hF] at hw;have a4v:=V.1;have a4P:R.length<=16001:=by have:=V.2;omega
 have c0:X.cell? (aA g2 0)=some (vS (J3 F)):=by rw [hF];exact P.2 0 a4v
 have a4w:=P.1;clear hF hLs Z V
 go_wp2_with fail
 refine (Es F _ O0 1 O0 O0).mono ?_;rintro e b ⟨⟨g3,cp3,rfl,hg3,Y⟩,y⟩;have hz3:=y.size;have bR:=D5.below bR1 y O0;have J:=X6.below oR1 y O0;have r:=D5.below bM1 y O0;have u:=X6.below oM1 y O0;have hL3:=U0 (lg P y);have K:=X5 l y;have d0:b.cell? (aA g3 0)=some (vS (J3 (O1 F))):=Y.2 0 (by simp [A_]);have a4F:=Y.1;have hrs:=D8 F;have hrN:J3 (Q9 F 1)=J3 (Y1 F):=rfl;rw [hrN];clear hrN y bR1 oR1 bM1 oM1 P l Y c0 hB0;have hMz:w.heap.size+1<b.heap.size:=O0;have hRB:w.heap.size<w.heap.size+1:=O0;have a4G:w.heap.size+1<g3:=O0;have a4Q:w.heap.size+1<g2:=O0;have a4x:g2<b.heap.size:=O0;clear hg3 a4w a4u hz1 hz3;generalize w.heap.size+1=a at*;rcases hw with hw|hw|hw
 · have i:=U0 (a0o (by rw [HLS.out];exact HF.out) hw);have HW:=U0 hw;have x:J3 (O1 F)=⟨#[99,108,101,97,114]⟩:=by rw [hw];rfl
   rw [x] at d0;clear hw x;have k0:=r 0 _ rfl;have f0:=u 0;have p:D5 (b.setCell (aA a 0) (vI 5)) a ((P_).c none 0):=r.set 0 (vI 5) (by show 0<10;omega);have B:D5 (b.setCell (aA a 0) (vI 5)) w.heap.size zE:=bR.other _ _ (by show a≠w.heap.size;omega);have D:X6 (b.setCell (aA a 0) (vI 5)) w.heap.size:=J.set _ _;have A:Bw w (b.setCell (aA a 0) (vI 5)):=K.setCell (by show w.heap.size<=a;omega) _;have O:a<(b.setCell (aA a 0) (vI 5)).heap.size:=U7;have z:w.heap.size<(b.setCell (aA a 0) (vI 5)).heap.size:=U7;have q:o9 (b.setCell (aA a 0) (vI 5)) none (P_).ls:=.inl rfl;have v:(P_).le 1048576:=⟨J4 _,J4 _,⟨J4 _,J4 _,J4 _⟩,⟨J4 _,fun _=>⟨J4 _,J4 _⟩⟩,J4 _⟩;have Q:∀ g o,(none:OA)=some (aA g o)->g≠w.heap.size:=fun _ _ h=>by cases h
   clear r u bR J K
   go_wp2_with (refine Z_ (by rfl) 137 (.tmp 4) rfl a rfl ((P_).c none 0) _ p underlying137 rfl Y2 ?_)
   refine (nN (P_) none 0 _ v q).mono ?_;rintro e U1 ⟨⟨f,rfl,hT⟩,d⟩;have S:=D5.below p d O;have j:=D5.below B d z;have C:=X6.below D d z;have l:=X5 A d;have U:=l7 q d;clear p B D q A d;by_cases he:f.data.toList=s.data.toList
   · have n:=U0 (Qp i.out hT W.out he);have m:f.toList=s.toList:=by rw [ByteArray.toList_eq,ByteArray.toList_eq];exact he
     have e1:(f.toList==s.toList)=true:=by simpa using m
     clear hT i he
     go_wp2_with (first | refine Xa rfl 137 (.tmp 4) rfl a rfl ((P_).c none 0) _ S underlying137 rfl Y2 ?_ | refine N7 rfl 137 (.tmp 2) (.tmp 123) rfl w.heap.size 0 rfl ((P_).c none 0) rfl (V9 j _ rfl) C (g_.bC _ _ _) Y2 rfl ?_)
     exact RI (P_) none 0 true n.out (fun h=>by cases h) v (Gl _ U Q) rfl rfl rfl j l
   · have n:=U0 (Yt i.out hT he);have m:¬ f.toList=s.toList:=by rw [ByteArray.toList_eq,ByteArray.toList_eq];exact he
     have e1:(f.toList==s.toList)=false:=by simpa using m
     clear hT i he
     go_wp2_with (refine N7 rfl 137 (.tmp 2) (.tmp 122) rfl w.heap.size 0 rfl zE rfl (V9 j zE rfl) C (by simp [zE,Value.oneCell']) Y2 rfl ?_)
     exact Oj n.out rfl rfl rfl j l
 · have i:=U0 (a1c (by rw [HLS.out];exact HF.out) hw);have HW:=U0 hw;have x:J3 (O1 F)=⟨#[100,114,111,112]⟩:=by rw [hw];rfl
   rw [x] at d0;clear hw x;have k0:=r 0 _ rfl;have f0:=u 0;have k2:=r 2 _ rfl;have f2:=u 2;have p:D5 ((b.setCell (aA a 0) (vI 3)).setCell (aA a 2) (vS (J3 (Y1 F)))) a ((Nb (J3 (Y1 F))).c none 0):=(r.set 0 (vI 3) (by show 0<10;omega)).set 2 (vS (J3 (Y1 F))) (by show 2<10;omega);have B:D5 ((b.setCell (aA a 0) (vI 3)).setCell (aA a 2) (vS (J3 (Y1 F)))) w.heap.size zE:=(bR.other _ _ (by show a≠w.heap.size;omega)).other _ _ (by show a≠w.heap.size;omega);have D:X6 ((b.setCell (aA a 0) (vI 3)).setCell (aA a 2) (vS (J3 (Y1 F)))) w.heap.size:=(J.set _ _).set _ _;have A:Bw w ((b.setCell (aA a 0) (vI 3)).setCell (aA a 2) (vS (J3 (Y1 F)))):=(K.setCell (by show w.heap.size<=a;omega) _).setCell (by show w.heap.size<=a;omega) _;have O:a<((b.setCell (aA a 0) (vI 3)).setCell (aA a 2) (vS (J3 (Y1 F)))).heap.size:=U7;have z:w.heap.size<((b.setCell (aA a 0) (vI 3)).setCell (aA a 2) (vS (J3 (Y1 F)))).heap.size:=U7;have q:o9 ((b.setCell (aA a 0) (vI 3)).setCell (aA a 2) (vS (J3 (Y1 F)))) none (Nb (J3 (Y1 F))).ls:=.inl rfl;have v:(Nb (J3 (Y1 F))).le 1048576:=⟨by show (J3 (Y1 F)).size<=1048576;rw [I5];omega,J4 _,⟨J4 _,J4 _,J4 _⟩,⟨J4 _,fun _=>⟨J4 _,J4 _⟩⟩,J4 _⟩;have Q:∀ g o,(none:OA)=some (aA g o)->g≠w.heap.size:=fun _ _ h=>by cases h
   clear r u bR J K;generalize J3 (Y1 F)=L at*
   go_wp2_with (refine Z_ (by rfl) 137 (.tmp 4) rfl a rfl ((Nb L).c none 0) _ p underlying137 rfl Y2 ?_)
   refine (nN (Nb L) none 0 _ v q).mono ?_;rintro e U1 ⟨⟨f,rfl,hT⟩,d⟩;have S:=D5.below p d O;have j:=D5.below B d z;have C:=X6.below D d z;have l:=X5 A d;have U:=l7 q d;clear p B D q A d;by_cases he:f.data.toList=s.data.toList
   · have n:=U0 (Qp i.out hT W.out he);have m:f.toList=s.toList:=by rw [ByteArray.toList_eq,ByteArray.toList_eq];exact he
     have e1:(f.toList==s.toList)=true:=by simpa using m
     clear hT i he
     go_wp2_with (first | refine Xa rfl 137 (.tmp 4) rfl a rfl ((Nb L).c none 0) _ S underlying137 rfl Y2 ?_ | refine N7 rfl 137 (.tmp 2) (.tmp 123) rfl w.heap.size 0 rfl ((Nb L).c none 0) rfl (V9 j _ rfl) C (g_.bC _ _ _) Y2 rfl ?_)
     exact RI (Nb L) none 0 true n.out (fun h=>by cases h) v (Gl _ U Q) rfl rfl rfl j l
   · have n:=U0 (Yt i.out hT he);have m:¬ f.toList=s.toList:=by rw [ByteArray.toList_eq,ByteArray.toList_eq];exact he
     have e1:(f.toList==s.toList)=false:=by simpa using m
     clear hT i he
     go_wp2_with (refine N7 rfl 137 (.tmp 2) (.tmp 122) rfl w.heap.size 0 rfl zE rfl (V9 j zE rfl) C (by simp [zE,Value.oneCell']) Y2 rfl ?_)
     exact Oj n.out rfl rfl rfl j l
 · have i:=U0 (a0G (by rw [HLS.out];exact HF.out) hw);have HW:=U0 hw;have x:J3 (O1 F)=⟨#[101,112,111,99,104]⟩:=by rw [hw];rfl
   rw [x] at d0;clear hw x;have k0:=r 0 _ rfl;have f0:=u 0
   go_wp2_with fail
   refine (c138 (J3 (Y1 F)) _ (by rw [I5];omega)).mono ?_;rintro e t ⟨rfl,I⟩;rw [L9];have E:(b.setCell (aA a 0) (vI 1)).heap.size=b.heap.size:=X4;have hz4:b.heap.size<=t.heap.size:=by have h:=I.size;rw [E] at h;exact h
   have bM4:=D5.below (r.set 0 (vI 1) (by show 0<10;omega)) I (by rw [E];exact hMz);have oM4:=X6.below (u.set (aA a 0) (vI 1)) I (by rw [E];exact hMz);have bR4:=D5.below (bR.other (aA a 0) (vI 1) (by show a≠w.heap.size;omega)) I (by rw [E];omega);have oR4:=X6.below (J.set (aA a 0) (vI 1)) I (by rw [E];omega);have hB4:=(K.setCell (by show w.heap.size<=a;omega) _).trans (I.mono (by rw [E];omega));have k1:=bM4 1 _ rfl;have f1:=oM4 1;have p:D5 (t.setCell (aA a 1) (vI (n29 (Y1 F)))) a ((h_ (n29 (Y1 F))).c none 0):=bM4.set 1 (vI (n29 (Y1 F))) (by show 1<10;omega);have B:D5 (t.setCell (aA a 1) (vI (n29 (Y1 F)))) w.heap.size zE:=bR4.other _ _ (by show a≠w.heap.size;omega);have D:X6 (t.setCell (aA a 1) (vI (n29 (Y1 F)))) w.heap.size:=oR4.set _ _;have A:Bw w (t.setCell (aA a 1) (vI (n29 (Y1 F)))):=hB4.setCell (by show w.heap.size<=a;omega) _;have O:a<(t.setCell (aA a 1) (vI (n29 (Y1 F)))).heap.size:=U7;have z:w.heap.size<(t.setCell (aA a 1) (vI (n29 (Y1 F)))).heap.size:=U7;have q:o9 (t.setCell (aA a 1) (vI (n29 (Y1 F)))) none (h_ (n29 (Y1 F))).ls:=.inl rfl;have v:(h_ (n29 (Y1 F))).le 1048576:=⟨J4 _,J4 _,⟨J4 _,J4 _,J4 _⟩,⟨J4 _,fun _=>⟨J4 _,J4 _⟩⟩,J4 _⟩;have Q:∀ g o,(none:OA)=some (aA g o)->g≠w.heap.size:=fun _ _ h=>by cases h
   clear I E r u bR J K bM4 oM4 bR4 oR4 hB4;generalize n29 (Y1 F)=N at*
   go_wp2_with (refine Z_ (by rfl) 137 (.tmp 4) rfl a rfl ((h_ N).c none 0) _ p underlying137 rfl Y2 ?_)
   refine (nN (h_ N) none 0 _ v q).mono ?_;rintro e U1 ⟨⟨f,rfl,hT⟩,d⟩;have S:=D5.below p d O;have j:=D5.below B d z;have C:=X6.below D d z;have l:=X5 A d;have U:=l7 q d;clear p B D q A d;by_cases he:f.data.toList=s.data.toList
   · have n:=U0 (Qp i.out hT W.out he);have m:f.toList=s.toList:=by rw [ByteArray.toList_eq,ByteArray.toList_eq];exact he
     have e1:(f.toList==s.toList)=true:=by simpa using m
     clear hT i he
     go_wp2_with (first | refine Xa rfl 137 (.tmp 4) rfl a rfl ((h_ N).c none 0) _ S underlying137 rfl Y2 ?_ | refine N7 rfl 137 (.tmp 2) (.tmp 123) rfl w.heap.size 0 rfl ((h_ N).c none 0) rfl (V9 j _ rfl) C (g_.bC _ _ _) Y2 rfl ?_)
     exact RI (h_ N) none 0 true n.out (fun h=>by cases h) v (Gl _ U Q) rfl rfl rfl j l
   · have n:=U0 (Yt i.out hT he);have m:¬ f.toList=s.toList:=by rw [ByteArray.toList_eq,ByteArray.toList_eq];exact he
     have e1:(f.toList==s.toList)=false:=by simpa using m
     clear hT i he
     go_wp2_with (refine N7 rfl 137 (.tmp 2) (.tmp 122) rfl w.heap.size 0 rfl zE rfl (V9 j zE rfl) C (by simp [zE,Value.oneCell']) Y2 rfl ?_)
     exact Oj n.out rfl rfl rfl j l
theorem PN (s:BY) (w:World) (h1:1<=s.size) (a:s.size<=16000) (hw:O1 ((G8 10 s.data.toList).getD 0 [])=Jg):
 Calls prog 95 #[.string s] w fun e w'=>Is4 s.data.toList w' e/\Bw w w':=QD s w h1 a (.inl hw)
theorem kP (s:BY) (w:World) (h1:1<=s.size) (a:s.size<=16000) (hw:O1 ((G8 10 s.data.toList).getD 0 [])=Zg):
 Calls prog 95 #[.string s] w fun e w'=>Is4 s.data.toList w' e/\Bw w w':=QD s w h1 a (.inr (.inl hw))
theorem EN (s:BY) (w:World) (h1:1<=s.size) (a:s.size<=16000) (hw:O1 ((G8 10 s.data.toList).getD 0 [])=Bd):
 Calls prog 95 #[.string s] w fun e w'=>Is4 s.data.toList w' e/\Bw w w':=QD s w h1 a (.inr (.inr hw))
end Go.Proofs.YtchjpjmcnhjbcaaGreatDoor
namespace Go.Proofs.YtchjpjmcnhjbcaaGreatDoor.G
open Proofs.Tryz Go.RowKit Go.Extern.Stop Go.Stop Go.Extern
theorem as_nil (t:Value) (w:World):
 Calls prog 174 #[.nilIface,t] w fun e w'=>e=.returned (.bool false)/\w'=w:=by
 go_enter func174,ntmps174;go_wp2;go_ret;exact ⟨rfl,rfl⟩
theorem DL (t:Addr) (w:World):(ReflectliteValue.unpack (.iface 254 (.pointer (some t)))).run prog w
 =.ok (.agg #[.pointer (some ⟨14,254,none⟩),.pointer (some ⟨w.heap.size,0,none⟩),.int .u64 150]) (w.alloc (.cells #[.pointer (some t)] 254)):=Y2
theorem type64 (a:Addr) (w:World):(ReflectliteValue.methodAny (ReflectliteValue.valueError "reflectlite.Value.Type" 0) (fun t _ _ _=>ReflectliteType.toType t) #[.agg #[.pointer (some ⟨14,254,none⟩),.pointer (some a),.int .u64 150]]).run prog w
 =.ok (.iface 357 (.agg #[.pointer (some ⟨14,254,none⟩)])) w:=Y2
theorem methodKind (h:Value) (w:World):(Go.method 560 357 (.agg #[h]) "Kind").run prog w=.ok (358,h) w:=Y2
theorem OY (w:World):((ReflectliteType.abiMethod fun t=>(fun a:Nat=>Value.int IntKind.u8 (a:Int)) <$> Rtype.kind t) #[.pointer (some ⟨14,254,none⟩)]).run prog w=.ok (.int .u8 22) w:=Y2
theorem DZ (w:World):((ReflectliteType.abiMethod fun t=>(fun a:Nat=>Value.int IntKind.u8 (a:Int)) <$> Rtype.kind t) #[.pointer (some ⟨14,252,none⟩)]).run prog w=.ok (.int .u8 25) w:=Y2
theorem dR (a:Addr) (W:World):(ReflectliteValue.method (ReflectliteValue.valueError "reflectlite.Value.IsNil" 0) ReflectliteValue.isNil #[.agg #[.pointer (some ⟨14,254,none⟩),.pointer (some a),.int .u64 150]]).run prog W=(ReflectliteValue.isNil 254 a 150 22).run prog W:=Y2
theorem fV (a:Addr) (W:World):(ReflectliteValue.method (ReflectliteValue.valueError "reflectlite.Value.Elem" 0) ReflectliteValue.elem #[.agg #[.pointer (some ⟨14,254,none⟩),.pointer (some a),.int .u64 150]]).run prog W=(ReflectliteValue.elem 254 a 150 22).run prog W:=Y2
theorem vU (a p:Addr) (W:World) (ha:W.cell? a=some (.pointer (some p))):
 (ReflectliteValue.method (ReflectliteValue.valueError "reflectlite.Value.IsNil" 0) ReflectliteValue.isNil #[.agg #[.pointer (some ⟨14,254,none⟩),.pointer (some a),.int .u64 150]]).run prog W=.ok (.bool false) W:=by
 rw [dR];simp [ReflectliteValue.isNil,loadVar,isAgg,underlying,underlying254,ha,Result.andThen]
theorem methodElem (h:Value) (w:World):(Go.method 560 357 (.agg #[h]) "Elem").run prog w=.ok (381,.agg #[h]) w:=Y2
theorem methodImplements (h:Value) (w:World):(Go.method 560 357 (.agg #[h]) "Implements").run prog w=.ok (382,.agg #[h]) w:=Y2
theorem methodAssignableTo (h:Value) (w:World):(Go.method 560 357 (.agg #[h]) "AssignableTo").run prog w=.ok (379,.agg #[h]) w:=Y2
theorem fZ (w:World):(ReflectliteType.method ReflectliteType.elem #[.agg #[.pointer (some ⟨14,254,none⟩)]]).run prog w=.ok (.iface 357 (.agg #[.pointer (some ⟨14,252,none⟩)])) w:=Y2
theorem SC (w:World):(ReflectliteType.relation "Implements" ReflectliteType.implements_ #[.agg #[.pointer (some ⟨14,252,none⟩)],.iface 357 (.agg #[.pointer (some ⟨14,169,none⟩)])]).run prog w=.ok (.bool true) w:=Y2
theorem iQ (v:Value) (w:World):(ReflectliteType.typeOf #[.iface 252 v]).run prog w=.ok (.iface 357 (.agg #[.pointer (some ⟨14,252,none⟩)])) w:=Y2
theorem WE (w:World):(ReflectliteType.relation "AssignableTo" ReflectliteType.assignableTo #[.agg #[.pointer (some ⟨14,252,none⟩)],.iface 357 (.agg #[.pointer (some ⟨14,252,none⟩)])]).run prog w=.ok (.bool true) w:=Y2
theorem WM (x y:Value) (w:World):(ReflectliteValue.unpack (.iface 252 (.agg #[x,y]))).run prog w
 =.ok (.agg #[.pointer (some ⟨14,252,none⟩),.pointer (some ⟨w.heap.size,0,none⟩),.int .u64 153]) (w.alloc (.cells #[x,y] 252)):=Y2
theorem XO (w:World):(Rtype.elem? 254).run prog w=.ok (some 252) w:=Y2
theorem a3F (p:Addr) (w:World):(ReflectliteValue.mk 252 p ReflectliteValue.flagAddr).run prog w=.ok (.agg #[.pointer (some ⟨14,252,none⟩),.pointer (some p),.int .u64 409]) w:=Y2
theorem PV (a p:Addr) (W:World) (ha:W.cell? a=some (.pointer (some p))):
 (ReflectliteValue.method (ReflectliteValue.valueError "reflectlite.Value.Elem" 0) ReflectliteValue.elem #[.agg #[.pointer (some ⟨14,254,none⟩),.pointer (some a),.int .u64 150]]).run prog W
  =.ok (.agg #[.pointer (some ⟨14,252,none⟩),.pointer (some p),.int .u64 409]) W:=by
 rw [fV];simp [ReflectliteValue.elem,loadVar,isAgg,underlying,underlying254,ha,Result.andThen,XO,a3F]
theorem zY (a b:Addr) (W:World):(ReflectliteValue.set #[.agg #[.pointer (some ⟨14,252,none⟩),.pointer (some a),.int .u64 409],.agg #[.pointer (some ⟨14,252,none⟩),.pointer (some b),.int .u64 153]]).run prog W=(do let v <- loadVar 252 b;storeVar 252 a v;pure (Value.tuple #[])).run prog W:=Y2
theorem a1C (B c:Nat) (n:Int) (ty:TypeId) (va x0 a:Value) (W:World) (k:W.cell? ⟨c,0,none⟩=some (.int .i64 n)) (j:W.cell? ⟨c,1,none⟩=some (.iface ty va)) (d:W.cell? ⟨B,0,none⟩=some x0) (b:W.cell? ⟨B,1,none⟩=some a) (h:W.frozen? ⟨B,0,none⟩=false) (g:W.frozen? ⟨B,1,none⟩=false):
 (ReflectliteValue.set #[.agg #[.pointer (some ⟨14,252,none⟩),.pointer (some ⟨B,0,none⟩),.int .u64 409],.agg #[.pointer (some ⟨14,252,none⟩),.pointer (some ⟨c,0,none⟩),.int .u64 153]]).run prog W
  =.ok (.tuple #[]) ((W.setCell ⟨B,0,none⟩ (.int .i64 n)).setCell ⟨B,1,none⟩ (.iface ty va)):=by
 have f:(W.setCell (aA B 0) (vI n)).cell? (aA B 1)=some a:=by rw [Na _ _ _ _ (by intro e;injection e with _ e;cases e)];exact b
 have i:(W.setCell (aA B 0) (vI n)).frozen? (aA B 1)=false:=by simpa using g
 rw [zY];simp [loadVar,isAgg,underlying,underlying252,loadCells,loadCellsFrom,k,j,Result.andThen,storeVar,Value.cells,storeCells,Addr.add];rw [run_store prog W (aA B 0) _ _ (by rfl)];simp [d,h];rw [run_store prog _ (aA B 1) _ _ (by rfl)];simp [f,i]
theorem as_hit (B:Nat) (n:Int) (ty:TypeId) (va x0 b:Value) (w:World) (d:w.cell? ⟨4,0,none⟩=some (.iface 357 (.agg #[.pointer (some ⟨14,169,none⟩)]))) (c:w.cell? ⟨B,0,none⟩=some x0) (e:w.cell? ⟨B,1,none⟩=some b) (i:w.frozen? ⟨B,0,none⟩=false) (g:w.frozen? ⟨B,1,none⟩=false):
 Calls prog 174 #[.iface 252 (.agg #[.int .i64 n,.iface ty va]),.iface 254 (.pointer (some ⟨B,0,none⟩))] w fun j w'=>j=.returned (.bool true)/\w'=(((((w.alloc (.cells #[.pointer (some ⟨B,0,none⟩)] 254)).alloc (.cells #[.pointer (some ⟨14,254,none⟩),.pointer (some ⟨w.heap.size,0,none⟩),.int .u64 150] 315)).alloc (.cells #[.pointer (some ⟨14,254,none⟩),.pointer (some ⟨w.heap.size,0,none⟩),.int .u64 150] 315)).alloc (.cells #[.int .i64 n,.iface ty va] 252)).setCell ⟨B,0,none⟩ (.int .i64 n)).setCell ⟨B,1,none⟩ (.iface ty va):=by
 have h40:=@run_callFunc_extern prog 230 _ (fun args=>ReflectliteValue.unpack (args.getD 0 (.tuple #[]))) func230 Y2 Y2 Y2 Y2;have h41:=@run_callFunc_extern prog 231 _ (ReflectliteValue.methodAny (ReflectliteValue.valueError "reflectlite.Value.Type" 0) (fun t _ _ _=>ReflectliteType.toType t)) func231 Y2 Y2 Y2 Y2;have h42:=@run_callFunc_extern prog 232 _ (ReflectliteValue.method (ReflectliteValue.valueError "reflectlite.Value.IsNil" 0) ReflectliteValue.isNil) func232 Y2 Y2 Y2 Y2;have h84:=@run_callFunc_extern prog 358 _ (ReflectliteType.abiMethod fun t=>do pure (.int .u8 (<- Rtype.kind t))) func358 Y2 Y2 Y2 Y2;have h96:=@run_callFunc_extern prog 381 _ (ReflectliteType.method ReflectliteType.elem) func381 Y2 Y2 Y2 Y2;have h97:=@run_callFunc_extern prog 382 _ (ReflectliteType.relation "Implements" ReflectliteType.implements_) func382 Y2 Y2 Y2 Y2;have h54:=@run_callFunc_extern prog 270 _ ReflectliteType.typeOf func270 Y2 Y2 Y2 Y2;have h94:=@run_callFunc_extern prog 379 _ (ReflectliteType.relation "AssignableTo" ReflectliteType.assignableTo) func379 Y2 Y2 Y2 Y2;have h55:=@run_callFunc_extern prog 271 _ (ReflectliteValue.method (ReflectliteValue.valueError "reflectlite.Value.Elem" 0) ReflectliteValue.elem) func271 Y2 Y2 Y2 Y2;have h56:=@run_callFunc_extern prog 272 _ ReflectliteValue.set func272 Y2 Y2 Y2 Y2;have tO:=iQ;have mA:=methodAssignableTo;have a25:=WE;have v25:=WM;have f6:=DL;have f7:=type64;have mK:=methodKind;have mE:=methodElem;have mI:=methodImplements;have k27:=OY;have k25:=DZ;have e27:=fZ;have i25:=SC;have n8:=vU (aW w 0) (aA B 0) ((w.alloc (.cells #[.pointer (some (aA B 0))] 254)).alloc (.cells #[.pointer (some (aA 14 254)),.pointer (some (aW w 0)),.int .u64 150] 315)) X4;have f:4<w.heap.size:=by
  rcases Q7 4 w.heap.size with h0 | h
  · exact h0
  simp [World.cell?,Xp h] at d
 have hg2:((w.alloc (.cells #[.pointer (some (aA B 0))] 254)).alloc (.cells #[.pointer (some (aA 14 254)),.pointer (some (aW w 0)),.int .u64 150] 315)).cell? (aA 4 0)=some (.iface 357 (.agg #[.pointer (some (aA 14 169))])):=by
  rw [Qh _ _ (aA 4 0) U7,Qh _ _ (aA 4 0) f];exact d
 have a:B<w.heap.size:=by
  rcases Q7 B w.heap.size with h | h
  · exact h
  simp [World.cell?,Xp h] at c
 have el:=PV (aW w 0) (aA B 0) (((w.alloc (.cells #[.pointer (some (aA B 0))] 254)).alloc (.cells #[.pointer (some (aA 14 254)),.pointer (some (aW w 0)),.int .u64 150] 315)).alloc (.cells #[.pointer (some (aA 14 254)),.pointer (some (aW w 0)),.int .u64 150] 315)) (by rw [Qh _ _ (aW w 0) U7];simp);have st:=a1C B (w.heap.size+1+1+1) n ty va x0 b ((((w.alloc (.cells #[.pointer (some (aA B 0))] 254)).alloc (.cells #[.pointer (some (aA 14 254)),.pointer (some (aW w 0)),.int .u64 150] 315)).alloc (.cells #[.pointer (some (aA 14 254)),.pointer (some (aW w 0)),.int .u64 150] 315)).alloc (.cells #[vI n,.iface ty va] 252))
  (by rw [World.cell?_alloc_at _ _ _ _ X4];rfl)
  (by rw [World.cell?_alloc_at _ _ _ _ X4];rfl)
  (by rw [Qh _ _ (aA B 0) U7,Qh _ _ (aA B 0) U7,Qh _ _ (aA B 0) U7,Qh _ _ (aA B 0) a];exact c)
  (by rw [Qh _ _ (aA B 1) U7,Qh _ _ (aA B 1) U7,Qh _ _ (aA B 1) U7,Qh _ _ (aA B 1) a];exact e)
  (by rw [Sv _ _ (aA B 0) U7,Sv _ _ (aA B 0) U7,Sv _ _ (aA B 0) U7,Sv _ _ (aA B 0) (Nat.ne_of_lt a)];exact i)
  (by rw [Sv _ _ (aA B 1) U7,Sv _ _ (aA B 1) U7,Sv _ _ (aA B 1) U7,Sv _ _ (aA B 1) (Nat.ne_of_lt a)];exact g)
 go_enter func174,ntmps174;go_wp2;refine wp_loop_rounds 1 ?_;rw [rounds_succ];go_wp2;go_ret;exact ⟨rfl,rfl⟩
theorem AU (B:Nat) (n:Int) (ty:TypeId) (va x0 a:Value) (w:World) (f:w.cell? ⟨4,0,none⟩=some (.iface 357 (.agg #[.pointer (some ⟨14,169,none⟩)]))) (b:w.cell? ⟨B,0,none⟩=some x0) (d:w.cell? ⟨B,1,none⟩=some a) (i:w.frozen? ⟨B,0,none⟩=false) (g:w.frozen? ⟨B,1,none⟩=false):
 Calls prog 174 #[.iface 252 (.agg #[.int .i64 n,.iface ty va]),.iface 254 (.pointer (some ⟨B,0,none⟩))] w fun j w'=>j=.returned (.bool true)/\Below B w w':=by
 have c:B<w.heap.size:=by
  rcases Q7 B w.heap.size with h | h
  · exact h
  simp [World.cell?,Xp h] at b
 refine (as_hit B n ty va x0 a w f b d i g).mono ?_;rintro e w' ⟨he,hw⟩;refine ⟨he,?_⟩;rw [hw];exact ((((((Z4 B w).alloc (Qo c) _).alloc U7 _).alloc U7 _).alloc U7 _).setCell (p:=(aA B 0)) H8 _).setCell (p:=(aA B 1)) H8 _
theorem aP (w:World):
 Calls prog 122 #[.nilIface] w fun e w'=>e=.returned (.bool false)/\Bw w w':=by
 go_enter func122,ntmps122
 go_wp2_with fail
 refine (as_nil _ _).mono ?_;rintro e w1 ⟨rfl,rfl⟩;go_wp2;go_ret;exact ⟨rfl,P6⟩
theorem uS (n:Int) (ty:TypeId) (va:Value) (w:World) (a:w.cell? ⟨4,0,none⟩=some (.iface 357 (.agg #[.pointer (some ⟨14,169,none⟩)]))):
 Calls prog 122 #[.iface 252 (.agg #[.int .i64 n,.iface ty va])] w fun e w'=>e=.returned (.bool true)/\Bw w w':=by
 have b:4<w.heap.size:=by
  rcases Q7 4 w.heap.size with h0 | h
  · exact h0
  simp [World.cell?,Xp h] at a
 have d:Hid (∀ o,(w.alloc o).cell? (aA 4 0)=some (.iface 357 (.agg #[.pointer (some (aA 14 169))]))):=fun o=>(Qh _ _ (aA 4 0) b).trans a;go_enter func122,ntmps122
 go_wp2_with fail
 refine (AU w.heap.size n ty va vO .nilIface _ (d.out _) X4 X4 X4 X4).mono ?_;rintro e w1 ⟨rfl,c⟩;have hB:=P6.trans c;go_wp2;go_ret;exact ⟨rfl,hB⟩
