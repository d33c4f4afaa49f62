import Derived.Test.YtkdbheidpdjimaaGreatDooreES
set_option linter.unusedVariables false
set_option maxHeartbeats 8000000
set_option maxRecDepth 100000
namespace Go.Proofs.YtkdbheidpdjimaaGreatDoor
open Proofs.Tryz Go.RowKit
theorem QM (s:BY) (w:World) (h1:1<=s.size) (h16:s.size<=16000) (hw:O1 ((L8 10 s.data.toList).getD 0 [])=Ug):
 Calls prog 54 #[.string s] w fun e w'=>Is4 s.data.toList w' e/\Bw w w':=by
 have V:Bw w ((w.alloc (.cells zE.toArray 105)).alloc (.cells zE.toArray 105)):=o7.alloc I4 _;have K:s.data.toList.length=s.size:=I4;have HNE:Hid (s.data.toList≠[]):=fun h=>by rw [h] at K;simp at K;omega
 have hse:(s.toList==[])=false:=by
  rw [ByteArray.toList_eq];exact n_.2 HNE.out
 have a4p:¬ s.toList=[]:=by simpa using hse
 have a4q:decide (16000<(s.size:Int))=false:=U7;go_enter func54,ntmps54
 go_wp2_with fail
 refine (IY s 10 _ O0).mono ?_;rintro e t ⟨⟨g2,cp,rfl,O,l⟩,Q⟩;have J:((w.alloc (.cells zE.toArray 105)).alloc (.cells zE.toArray 105)).heap.size=w.heap.size+2:=I4;have f:Below (w.heap.size+2) ((w.alloc (.cells zE.toArray 105)).alloc (.cells zE.toArray 105)) t:=Q.mono I4;have a3a:w.heap.size+2<=g2:=by have h:=O;simp at h;omega
 have hz1:w.heap.size+2<=t.heap.size:=by have h:=f.size;rw [J] at h;exact h
 have W:=((I5 w zE 105).below o7 I4).below f O0;have D:=((N8 w zE.toArray 105).below o7 I4).below f O0;have X:=X4.below (by have h:=I5 (w.alloc (.cells zE.toArray 105)) zE 105;simp at h;exact h) f O0;have H:=Y5.below (by have h:=N8 (w.alloc (.cells zE.toArray 105)) zE.toArray 105;simp at h;exact h) f O0;have m:=V.trans (f.mono O0);have p:=Qi 10 s.data.toList;have v:=Oe 10 s.data.toList;clear Q O J f;obtain ⟨n,x⟩:∃ n,n=L8 10 s.data.toList:=⟨_,rfl⟩;rw [<- x] at l p v hw ⊢;have HLS:=U0 x.symm;have HCS:Hid (∀ k,(n.getD k []).length<=16000):=fun k=>Q7 (v k) O0;obtain ⟨F,hF⟩:∃ F,F=n.getD 0 []:=⟨_,rfl⟩;have HF:=U0 hF.symm;have hFl:F.length<=16000:=by rw [hF];exact HCS.out 0
 rw [<- hF] at hw;have a3b:=p.1;have a3O:n.length<=16001:=by have:=p.2;omega
 have c0:t.cell? (aA g2 0)=some (vS (Y2 F)):=by rw [hF];exact l.2 0 a3b
 have a3c:=l.1;clear hF x v p
 go_wp2_with fail
 refine (Vz F _ O0 1 O0 O0).mono ?_;rintro e b ⟨⟨g3,cp3,rfl,hg3,u⟩,d⟩;have hz3:=d.size;have bR:=X4.below W d O0;have E:=Y5.below D d O0;have z:=X4.below X d O0;have I:=Y5.below H d O0;have hL3:=U0 (Qc l d);have U:=G7 m d;have d0:b.cell? (aA g3 0)=some (vS (Y2 (O1 F))):=u.2 0 (by simp [w_]);have a3J:=u.1;have hrs:=X7 F;have L:Y2 (S9 F 1)=Y2 (Y1 F):=rfl;rw [L];clear L d W D X H l m u c0 V;have hMz:w.heap.size+1<b.heap.size:=O0;have hRB:w.heap.size<w.heap.size+1:=O0;have a3K:w.heap.size+1<g3:=O0;have a3P:w.heap.size+1<g2:=O0;have a3l:g2<b.heap.size:=O0;clear hg3 a3c a3a hz1 hz3;generalize w.heap.size+1=a at*;have q:=U0 (a0a (by rw [HLS.out];exact HF.out) hw);have HW:=U0 hw;have P:Y2 (O1 F)=⟨#[99,108,101,97,114]⟩:=by rw [hw];rfl
 rw [P] at d0;clear hw P;have k0:=z 0 _ rfl;have f0:=I 0;have B:X4 (b.setCell (aA a 0) (vI 5)) a ((U_).c none 0):=z.set 0 (vI 5) (by show 0<10;omega);have Y:X4 (b.setCell (aA a 0) (vI 5)) w.heap.size zE:=bR.other _ _ (by show a≠w.heap.size;omega);have HO:Y5 (b.setCell (aA a 0) (vI 5)) w.heap.size:=E.set _ _;have S:Bw w (b.setCell (aA a 0) (vI 5)):=U.setCell (by show w.heap.size<=a;omega) _;have hMU:a<(b.setCell (aA a 0) (vI 5)).heap.size:=U7;have R:w.heap.size<(b.setCell (aA a 0) (vI 5)).heap.size:=U7;have C:I9 (b.setCell (aA a 0) (vI 5)) none (U_).ls:=.inl rfl;have N:(U_).le 1048576:=⟨D5 _,D5 _,⟨D5 _,D5 _,D5 _⟩,⟨D5 _,fun _=>⟨D5 _,D5 _⟩⟩,D5 _⟩;have a3d:∀ g o,(none:OA)=some (aA g o)->g≠w.heap.size:=fun _ _ h=>by cases h
 clear z I bR E U
 go_wp2_with (refine Ia (by rfl) 105 (.tmp 4) rfl a rfl ((U_).c none 0) _ B underlying105 rfl J3 ?_)
 refine (zN (U_) none 0 _ N C).mono ?_;rintro e U1 ⟨⟨j,rfl,hT⟩,i⟩;have HM1:=X4.below B i hMU;have r:=X4.below Y i R;have Z:=Y5.below HO i R;have m:=G7 S i;have a3e:=N7 C i;clear B Y HO C S i;by_cases he:j.data.toList=s.data.toList
 · have A:=U0 (Xp q.out hT HNE.out he);have y:j.toList=s.toList:=by rw [ByteArray.toList_eq,ByteArray.toList_eq];exact he
   have e1:(j.toList==s.toList)=true:=by simpa using y
   clear hT q he
   go_wp2_with (first | refine X9 rfl 105 (.tmp 4) rfl a rfl ((U_).c none 0) _ HM1 underlying105 rfl J3 ?_ | refine J7 rfl 105 (.tmp 2) (.tmp 123) rfl w.heap.size 0 rfl ((U_).c none 0) rfl (d_ r _ rfl) Z (p_.lC _ _ _) J3 rfl ?_)
   exact bI (U_) none 0 true A.out (fun h=>by cases h) N (Nk _ a3e a3d) rfl rfl rfl r m
 · have A:=U0 (Eu q.out hT he);have y:¬ j.toList=s.toList:=by rw [ByteArray.toList_eq,ByteArray.toList_eq];exact he
   have e1:(j.toList==s.toList)=false:=by simpa using y
   clear hT q he
   go_wp2_with (refine J7 rfl 105 (.tmp 2) (.tmp 122) rfl w.heap.size 0 rfl zE rfl (d_ r zE rfl) Z (by simp [zE,Value.oneCell']) J3 rfl ?_)
   exact Xj A.out rfl rfl rfl r m
theorem AO (s:BY) (w:World) (h1:1<=s.size) (h16:s.size<=16000) (hw:O1 ((L8 10 s.data.toList).getD 0 [])=Lh):
 Calls prog 54 #[.string s] w fun e w'=>Is4 s.data.toList w' e/\Bw w w':=by
 have W:Bw w ((w.alloc (.cells zE.toArray 105)).alloc (.cells zE.toArray 105)):=o7.alloc I4 _;have L:s.data.toList.length=s.size:=I4;have HNE:Hid (s.data.toList≠[]):=fun h=>by rw [h] at L;simp at L;omega
 have hse:(s.toList==[])=false:=by
  rw [ByteArray.toList_eq];exact n_.2 HNE.out
 have a4p:¬ s.toList=[]:=by simpa using hse
 have a4q:decide (16000<(s.size:Int))=false:=U7;go_enter func54,ntmps54
 go_wp2_with fail
 refine (IY s 10 _ O0).mono ?_;rintro e v ⟨⟨g2,cp,rfl,P,m⟩,R⟩;have K:((w.alloc (.cells zE.toArray 105)).alloc (.cells zE.toArray 105)).heap.size=w.heap.size+2:=I4;have f:Below (w.heap.size+2) ((w.alloc (.cells zE.toArray 105)).alloc (.cells zE.toArray 105)) v:=R.mono I4;have a3a:w.heap.size+2<=g2:=by have h:=P;simp at h;omega
 have hz1:w.heap.size+2<=v.heap.size:=by have h:=f.size;rw [K] at h;exact h
 have X:=((I5 w zE 105).below o7 I4).below f O0;have H:=((N8 w zE.toArray 105).below o7 I4).below f O0;have Y:=X4.below (by have h:=I5 (w.alloc (.cells zE.toArray 105)) zE 105;simp at h;exact h) f O0;have J:=Y5.below (by have h:=N8 (w.alloc (.cells zE.toArray 105)) zE.toArray 105;simp at h;exact h) f O0;have n:=W.trans (f.mono O0);have q:=Qi 10 s.data.toList;have z:=Oe 10 s.data.toList;clear R P K f;obtain ⟨p,A⟩:∃ p,p=L8 10 s.data.toList:=⟨_,rfl⟩;rw [<- A] at m q z hw ⊢;have HLS:=U0 A.symm;have HCS:Hid (∀ k,(p.getD k []).length<=16000):=fun k=>Q7 (z k) O0;obtain ⟨F,hF⟩:∃ F,F=p.getD 0 []:=⟨_,rfl⟩;have HF:=U0 hF.symm;have hFl:F.length<=16000:=by rw [hF];exact HCS.out 0
 rw [<- hF] at hw;have a3b:=q.1;have a3O:p.length<=16001:=by have:=q.2;omega
 have c0:v.cell? (aA g2 0)=some (vS (Y2 F)):=by rw [hF];exact m.2 0 a3b
 have a3c:=m.1;clear hF A z q
 go_wp2_with fail
 refine (Vz F _ O0 1 O0 O0).mono ?_;rintro e b ⟨⟨g3,cp3,rfl,hg3,y⟩,d⟩;have hz3:=d.size;have bR:=X4.below X d O0;have I:=Y5.below H d O0;have r:=X4.below Y d O0;have x:=Y5.below J d O0;have hL3:=U0 (Qc m d);have V:=G7 n d;have d0:b.cell? (aA g3 0)=some (vS (Y2 (O1 F))):=y.2 0 (by simp [w_]);have a3J:=y.1;have hrs:=X7 F;have N:Y2 (S9 F 1)=Y2 (Y1 F):=rfl;rw [N];clear N d X H Y J m n y c0 W;have hMz:w.heap.size+1<b.heap.size:=O0;have hRB:w.heap.size<w.heap.size+1:=O0;have a3K:w.heap.size+1<g3:=O0;have a3P:w.heap.size+1<g2:=O0;have a3l:g2<b.heap.size:=O0;clear hg3 a3c a3a hz1 hz3;generalize w.heap.size+1=a at*;have t:=U0 (xZ (by rw [HLS.out];exact HF.out) hw);have HW:=U0 hw;have Q:Y2 (O1 F)=⟨#[100,114,111,112]⟩:=by rw [hw];rfl
 rw [Q] at d0;clear hw Q;have k0:=r 0 _ rfl;have f0:=x 0;have k2:=r 2 _ rfl;have f2:=x 2;have D:X4 ((b.setCell (aA a 0) (vI 3)).setCell (aA a 2) (vS (Y2 (Y1 F)))) a ((Xb (Y2 (Y1 F))).c none 0):=(r.set 0 (vI 3) (by show 0<10;omega)).set 2 (vS (Y2 (Y1 F))) (by show 2<10;omega);have Z:X4 ((b.setCell (aA a 0) (vI 3)).setCell (aA a 2) (vS (Y2 (Y1 F)))) w.heap.size zE:=(bR.other _ _ (by show a≠w.heap.size;omega)).other _ _ (by show a≠w.heap.size;omega);have HO:Y5 ((b.setCell (aA a 0) (vI 3)).setCell (aA a 2) (vS (Y2 (Y1 F)))) w.heap.size:=(I.set _ _).set _ _;have U:Bw w ((b.setCell (aA a 0) (vI 3)).setCell (aA a 2) (vS (Y2 (Y1 F)))):=(V.setCell (by show w.heap.size<=a;omega) _).setCell (by show w.heap.size<=a;omega) _;have hMU:a<((b.setCell (aA a 0) (vI 3)).setCell (aA a 2) (vS (Y2 (Y1 F)))).heap.size:=U7;have S:w.heap.size<((b.setCell (aA a 0) (vI 3)).setCell (aA a 2) (vS (Y2 (Y1 F)))).heap.size:=U7;have E:I9 ((b.setCell (aA a 0) (vI 3)).setCell (aA a 2) (vS (Y2 (Y1 F)))) none (Xb (Y2 (Y1 F))).ls:=.inl rfl;have O:(Xb (Y2 (Y1 F))).le 1048576:=⟨by show (Y2 (Y1 F)).size<=1048576;rw [J5];omega,D5 _,⟨D5 _,D5 _,D5 _⟩,⟨D5 _,fun _=>⟨D5 _,D5 _⟩⟩,D5 _⟩;have a3d:∀ g o,(none:OA)=some (aA g o)->g≠w.heap.size:=fun _ _ h=>by cases h
 clear r x bR I V;generalize Y2 (Y1 F)=l at*
 go_wp2_with (refine Ia (by rfl) 105 (.tmp 4) rfl a rfl ((Xb l).c none 0) _ D underlying105 rfl J3 ?_)
 refine (zN (Xb l) none 0 _ O E).mono ?_;rintro e U1 ⟨⟨j,rfl,hT⟩,i⟩;have HM1:=X4.below D i hMU;have u:=X4.below Z i S;have HO1:=Y5.below HO i S;have n:=G7 U i;have a3e:=N7 E i;clear D Z HO E U i;by_cases he:j.data.toList=s.data.toList
 · have C:=U0 (Xp t.out hT HNE.out he);have B:j.toList=s.toList:=by rw [ByteArray.toList_eq,ByteArray.toList_eq];exact he
   have e1:(j.toList==s.toList)=true:=by simpa using B
   clear hT t he
   go_wp2_with (first | refine X9 rfl 105 (.tmp 4) rfl a rfl ((Xb l).c none 0) _ HM1 underlying105 rfl J3 ?_ | refine J7 rfl 105 (.tmp 2) (.tmp 123) rfl w.heap.size 0 rfl ((Xb l).c none 0) rfl (d_ u _ rfl) HO1 (p_.lC _ _ _) J3 rfl ?_)
   exact bI (Xb l) none 0 true C.out (fun h=>by cases h) O (Nk _ a3e a3d) rfl rfl rfl u n
 · have C:=U0 (Eu t.out hT he);have B:¬ j.toList=s.toList:=by rw [ByteArray.toList_eq,ByteArray.toList_eq];exact he
   have e1:(j.toList==s.toList)=false:=by simpa using B
   clear hT t he
   go_wp2_with (refine J7 rfl 105 (.tmp 2) (.tmp 122) rfl w.heap.size 0 rfl zE rfl (d_ u zE rfl) HO1 (by simp [zE,Value.oneCell']) J3 rfl ?_)
   exact Xj C.out rfl rfl rfl u n
theorem UL (s:BY) (w:World) (h1:1<=s.size) (h16:s.size<=16000) (hw:O1 ((L8 10 s.data.toList).getD 0 [])=Le):
 Calls prog 54 #[.string s] w fun e w'=>Is4 s.data.toList w' e/\Bw w w':=by
 have hB0:Bw w ((w.alloc (.cells zE.toArray 105)).alloc (.cells zE.toArray 105)):=o7.alloc I4 _;have S:s.data.toList.length=s.size:=I4;have HNE:Hid (s.data.toList≠[]):=fun h=>by rw [h] at S;simp at S;omega
 have hse:(s.toList==[])=false:=by
  rw [ByteArray.toList_eq];exact n_.2 HNE.out
 have a4p:¬ s.toList=[]:=by simpa using hse
 have a4q:decide (16000<(s.size:Int))=false:=U7;go_enter func54,ntmps54
 go_wp2_with fail
 refine (IY s 10 _ O0).mono ?_;rintro e y ⟨⟨g2,cp,rfl,W,q⟩,Y⟩;have R:((w.alloc (.cells zE.toArray 105)).alloc (.cells zE.toArray 105)).heap.size=w.heap.size+2:=I4;have i:Below (w.heap.size+2) ((w.alloc (.cells zE.toArray 105)).alloc (.cells zE.toArray 105)) y:=Y.mono I4;have a3a:w.heap.size+2<=g2:=by have h:=W;simp at h;omega
 have hz1:w.heap.size+2<=y.heap.size:=by have h:=i.size;rw [R] at h;exact h
 have bR1:=((I5 w zE 105).below o7 I4).below i O0;have N:=((N8 w zE.toArray 105).below o7 I4).below i O0;have bM1:=X4.below (by have h:=I5 (w.alloc (.cells zE.toArray 105)) zE 105;simp at h;exact h) i O0;have Q:=Y5.below (by have h:=N8 (w.alloc (.cells zE.toArray 105)) zE.toArray 105;simp at h;exact h) i O0;have r:=hB0.trans (i.mono O0);have u:=Qi 10 s.data.toList;have B:=Oe 10 s.data.toList;clear Y W R i;obtain ⟨t,C⟩:∃ t,t=L8 10 s.data.toList:=⟨_,rfl⟩;rw [<- C] at q u B hw ⊢;have HLS:=U0 C.symm;have HCS:Hid (∀ k,(t.getD k []).length<=16000):=fun k=>Q7 (B k) O0;obtain ⟨F,hF⟩:∃ F,F=t.getD 0 []:=⟨_,rfl⟩;have HF:=U0 hF.symm;have hFl:F.length<=16000:=by rw [hF];exact HCS.out 0
 rw [<- hF] at hw;have a3b:=u.1;have a3O:t.length<=16001:=by have:=u.2;omega
 have c0:y.cell? (aA g2 0)=some (vS (Y2 F)):=by rw [hF];exact q.2 0 a3b
 have a3c:=q.1;clear hF C B u
 go_wp2_with fail
 refine (Vz F _ O0 1 O0 O0).mono ?_;rintro e l ⟨⟨g3,cp3,rfl,hg3,A⟩,d⟩;have hz3:=d.size;have bR:=X4.below bR1 d O0;have O:=Y5.below N d O0;have H:=X4.below bM1 d O0;have z:=Y5.below Q d O0;have hL3:=U0 (Qc q d);have hB3:=G7 r d;have d0:l.cell? (aA g3 0)=some (vS (Y2 (O1 F))):=A.2 0 (by simp [w_]);have a3J:=A.1;have hrs:=X7 F;have U:Y2 (S9 F 1)=Y2 (Y1 F):=rfl;rw [U];clear U d bR1 N bM1 Q q r A c0 hB0;have hMz:w.heap.size+1<l.heap.size:=O0;have hRB:w.heap.size<w.heap.size+1:=O0;have a3K:w.heap.size+1<g3:=O0;have a3P:w.heap.size+1<g2:=O0;have a3l:g2<l.heap.size:=O0;clear hg3 a3c a3a hz1 hz3;generalize w.heap.size+1=a at*;have v:=U0 (a0y (by rw [HLS.out];exact HF.out) hw);have HW:=U0 hw;have X:Y2 (O1 F)=⟨#[101,112,111,99,104]⟩:=by rw [hw];rfl
 rw [X] at d0;clear hw X;have k0:=H 0 _ rfl;have f0:=z 0
 go_wp2_with fail
 refine (c97 (Y2 (Y1 F)) _ (by rw [J5];omega)).mono ?_;rintro e b ⟨rfl,j⟩;rw [O9];have f:(l.setCell (aA a 0) (vI 1)).heap.size=l.heap.size:=I4;have hz4:l.heap.size<=b.heap.size:=by have h:=j.size;rw [f] at h;exact h
 have E:=X4.below (H.set 0 (vI 1) (by show 0<10;omega)) j (by rw [f];exact hMz);have P:=Y5.below (z.set (aA a 0) (vI 1)) j (by rw [f];exact hMz);have bR4:=X4.below (bR.other (aA a 0) (vI 1) (by show a≠w.heap.size;omega)) j (by rw [f];omega);have L:=Y5.below (O.set (aA a 0) (vI 1)) j (by rw [f];omega);have hB4:=(hB3.setCell (by show w.heap.size<=a;omega) _).trans (j.mono (by rw [f];omega));have k1:=E 1 _ rfl;have f1:=P 1;have J:X4 (b.setCell (aA a 1) (vI (n29 (Y1 F)))) a ((r_ (n29 (Y1 F))).c none 0):=E.set 1 (vI (n29 (Y1 F))) (by show 1<10;omega);have HR:X4 (b.setCell (aA a 1) (vI (n29 (Y1 F)))) w.heap.size zE:=bR4.other _ _ (by show a≠w.heap.size;omega);have HO:Y5 (b.setCell (aA a 1) (vI (n29 (Y1 F)))) w.heap.size:=L.set _ _;have hBU:Bw w (b.setCell (aA a 1) (vI (n29 (Y1 F)))):=hB4.setCell (by show w.heap.size<=a;omega) _;have hMU:a<(b.setCell (aA a 1) (vI (n29 (Y1 F)))).heap.size:=U7;have Z:w.heap.size<(b.setCell (aA a 1) (vI (n29 (Y1 F)))).heap.size:=U7;have K:I9 (b.setCell (aA a 1) (vI (n29 (Y1 F)))) none (r_ (n29 (Y1 F))).ls:=.inl rfl;have V:(r_ (n29 (Y1 F))).le 1048576:=⟨D5 _,D5 _,⟨D5 _,D5 _,D5 _⟩,⟨D5 _,fun _=>⟨D5 _,D5 _⟩⟩,D5 _⟩;have a3d:∀ g o,(none:OA)=some (aA g o)->g≠w.heap.size:=fun _ _ h=>by cases h
 clear j f H z bR O hB3 E P bR4 L hB4;generalize n29 (Y1 F)=p at*
 go_wp2_with (refine Ia (by rfl) 105 (.tmp 4) rfl a rfl ((r_ p).c none 0) _ J underlying105 rfl J3 ?_)
 refine (zN (r_ p) none 0 _ V K).mono ?_;rintro e U1 ⟨⟨n,rfl,hT⟩,m⟩;have HM1:=X4.below J m hMU;have x:=X4.below HR m Z;have HO1:=Y5.below HO m Z;have r:=G7 hBU m;have a3e:=N7 K m;clear J HR HO K hBU m;by_cases he:n.data.toList=s.data.toList
 · have I:=U0 (Xp v.out hT HNE.out he);have D:n.toList=s.toList:=by rw [ByteArray.toList_eq,ByteArray.toList_eq];exact he
   have e1:(n.toList==s.toList)=true:=by simpa using D
   clear hT v he
   go_wp2_with (first | refine X9 rfl 105 (.tmp 4) rfl a rfl ((r_ p).c none 0) _ HM1 underlying105 rfl J3 ?_ | refine J7 rfl 105 (.tmp 2) (.tmp 123) rfl w.heap.size 0 rfl ((r_ p).c none 0) rfl (d_ x _ rfl) HO1 (p_.lC _ _ _) J3 rfl ?_)
   exact bI (r_ p) none 0 true I.out (fun h=>by cases h) V (Nk _ a3e a3d) rfl rfl rfl x r
 · have I:=U0 (Eu v.out hT he);have D:¬ n.toList=s.toList:=by rw [ByteArray.toList_eq,ByteArray.toList_eq];exact he
   have e1:(n.toList==s.toList)=false:=by simpa using D
   clear hT v he
   go_wp2_with (refine J7 rfl 105 (.tmp 2) (.tmp 122) rfl w.heap.size 0 rfl zE rfl (d_ x zE rfl) HO1 (by simp [zE,Value.oneCell']) J3 rfl ?_)
   exact Xj I.out rfl rfl rfl x r
theorem UN (s:BY) (w:World) (h1:1<=s.size) (h16:s.size<=16000) (hw:O1 ((L8 10 s.data.toList).getD 0 [])≠jk/\O1 ((L8 10 s.data.toList).getD 0 [])≠Le/\O1 ((L8 10 s.data.toList).getD 0 [])≠Jh/\O1 ((L8 10 s.data.toList).getD 0 [])≠Lh/\O1 ((L8 10 s.data.toList).getD 0 [])≠Ug):
 Calls prog 54 #[.string s] w fun e w'=>Is4 s.data.toList w' e/\Bw w w':=by
 have R:Bw w ((w.alloc (.cells zE.toArray 105)).alloc (.cells zE.toArray 105)):=o7.alloc I4 _;have J:s.data.toList.length=s.size:=I4;have Y:Hid (s.data.toList≠[]):=fun h=>by rw [h] at J;simp at J;omega
 have hse:(s.toList==[])=false:=by
  rw [ByteArray.toList_eq];exact n_.2 Y.out
 have a4p:¬ s.toList=[]:=by simpa using hse
 have a4q:decide (16000<(s.size:Int))=false:=U7;go_enter func54,ntmps54
 go_wp2_with fail
 refine (IY s 10 _ O0).mono ?_;rintro e u ⟨⟨g2,cp,rfl,N,j⟩,O⟩;have I:((w.alloc (.cells zE.toArray 105)).alloc (.cells zE.toArray 105)).heap.size=w.heap.size+2:=I4;have b:Below (w.heap.size+2) ((w.alloc (.cells zE.toArray 105)).alloc (.cells zE.toArray 105)) u:=O.mono I4;have a3a:w.heap.size+2<=g2:=by have h:=N;simp at h;omega
 have hz1:w.heap.size+2<=u.heap.size:=by have h:=b.size;rw [I] at h;exact h
 have S:=((I5 w zE 105).below o7 I4).below b O0;have E:=((N8 w zE.toArray 105).below o7 I4).below b O0;have U:=X4.below (by have h:=I5 (w.alloc (.cells zE.toArray 105)) zE 105;simp at h;exact h) b O0;have H:=Y5.below (by have h:=N8 (w.alloc (.cells zE.toArray 105)) zE.toArray 105;simp at h;exact h) b O0;have l:=R.trans (b.mono O0);have q:=Qi 10 s.data.toList;have x:=Oe 10 s.data.toList;clear O N I b;obtain ⟨m,y⟩:∃ m,m=L8 10 s.data.toList:=⟨_,rfl⟩;rw [<- y] at j q x hw ⊢;have n:=U0 y.symm;have HCS:Hid (∀ k,(m.getD k []).length<=16000):=fun k=>Q7 (x k) O0;obtain ⟨F,hF⟩:∃ F,F=m.getD 0 []:=⟨_,rfl⟩;have p:=U0 hF.symm;have hFl:F.length<=16000:=by rw [hF];exact HCS.out 0
 rw [<- hF] at hw;have a3b:=q.1;have a3O:m.length<=16001:=by have:=q.2;omega
 have c0:u.cell? (aA g2 0)=some (vS (Y2 F)):=by rw [hF];exact j.2 0 a3b
 have a3c:=j.1;clear hF y x q
 go_wp2_with fail
 refine (Vz F _ O0 1 O0 O0).mono ?_;rintro e d ⟨⟨g3,cp3,rfl,hg3,v⟩,a⟩;have hz3:=a.size;have bR:=X4.below S a O0;have Z:=Y5.below E a O0;have bM:=X4.below U a O0;have oM:=Y5.below H a O0;have hL3:=U0 (Qc j a);have hB3:=G7 l a;have d0:d.cell? (aA g3 0)=some (vS (Y2 (O1 F))):=v.2 0 (by simp [w_]);have a3J:=v.1;have hrs:=X7 F;have K:Y2 (S9 F 1)=Y2 (Y1 F):=rfl;rw [K];clear K a S E U H j l v c0 R;have hMz:w.heap.size+1<d.heap.size:=O0;have hRB:w.heap.size<w.heap.size+1:=O0;have a3K:w.heap.size+1<g3:=O0;have a3P:w.heap.size+1<g2:=O0;have a3l:g2<d.heap.size:=O0;clear hg3 a3c a3a hz1 hz3;generalize w.heap.size+1=D at*;have r:Hid (PS s.data.toList Ii):=YR _ (by rw [n.out,p.out];exact hw.1) (by rw [n.out,p.out];exact hw.2.1) (by rw [n.out,p.out];exact hw.2.2.1) (by rw [n.out,p.out];exact hw.2.2.2.1) (by rw [n.out,p.out];exact hw.2.2.2.2);have n4:((Y2 (O1 F)).toList==[114,97,110])=false:=by
  rw [ByteArray.toList_eq,O9];exact n_.2 hw.1
 have m4:¬ (Y2 (O1 F)).toList=[114,97,110]:=by simpa using n4
 have n1:((Y2 (O1 F)).toList==[101,112,111,99,104])=false:=by
  rw [ByteArray.toList_eq,O9];exact n_.2 hw.2.1
 have m1:¬ (Y2 (O1 F)).toList=[101,112,111,99,104]:=by simpa using n1
 have n2:((Y2 (O1 F)).toList==[102,105,108,101])=false:=by
  rw [ByteArray.toList_eq,O9];exact n_.2 hw.2.2.1
 have m2:¬ (Y2 (O1 F)).toList=[102,105,108,101]:=by simpa using n2
 have n3:((Y2 (O1 F)).toList==[100,114,111,112])=false:=by
  rw [ByteArray.toList_eq,O9];exact n_.2 hw.2.2.2.1
 have m3:¬ (Y2 (O1 F)).toList=[100,114,111,112]:=by simpa using n3
 have n5:((Y2 (O1 F)).toList==[99,108,101,97,114])=false:=by
  rw [ByteArray.toList_eq,O9];exact n_.2 hw.2.2.2.2
 have m5:¬ (Y2 (O1 F)).toList=[99,108,101,97,114]:=by simpa using n5
 clear hw;have B:X4 d D (Ii.c none 0):=bM;have V:=bR;have X:=Z;have Q:=hB3;have hMU:=hMz;have P:w.heap.size<d.heap.size:=O0;have C:I9 d none Ii.ls:=.inl rfl;have L:=zJ;have a3d:∀ g o,(none:OA)=some (aA g o)->g≠w.heap.size:=fun _ _ h=>by cases h
 generalize Y2 (O1 F)=wd at*
 go_wp2_with (refine Ia (by rfl) 105 (.tmp 4) rfl D rfl ((Ii).c none 0) _ B underlying105 rfl J3 ?_)
 refine (zN (Ii) none 0 _ L C).mono ?_;rintro e U1 ⟨⟨i,rfl,hT⟩,f⟩;have HM1:=X4.below B f hMU;have t:=X4.below V f P;have W:=Y5.below X f P;have l:=G7 Q f;have a3e:=N7 C f;clear B V X C Q f;by_cases he:i.data.toList=s.data.toList
 · have A:=U0 (Xp r.out hT Y.out he);have z:i.toList=s.toList:=by rw [ByteArray.toList_eq,ByteArray.toList_eq];exact he
   have e1:(i.toList==s.toList)=true:=by simpa using z
   clear hT r he
   go_wp2_with (first | refine X9 rfl 105 (.tmp 4) rfl D rfl ((Ii).c none 0) _ HM1 underlying105 rfl J3 ?_ | refine J7 rfl 105 (.tmp 2) (.tmp 123) rfl w.heap.size 0 rfl ((Ii).c none 0) rfl (d_ t _ rfl) W (p_.lC _ _ _) J3 rfl ?_)
   exact bI (Ii) none 0 true A.out (fun h=>by cases h) L (Nk _ a3e a3d) rfl rfl rfl t l
 · have A:=U0 (Eu r.out hT he);have z:¬ i.toList=s.toList:=by rw [ByteArray.toList_eq,ByteArray.toList_eq];exact he
   have e1:(i.toList==s.toList)=false:=by simpa using z
   clear hT r he
   go_wp2_with (refine J7 rfl 105 (.tmp 2) (.tmp 122) rfl w.heap.size 0 rfl zE rfl (d_ t zE rfl) W (by simp [zE,Value.oneCell']) J3 rfl ?_)
   exact Xj A.out rfl rfl rfl t l
theorem tN (w:World):
 Calls prog 54 #[.string ⟨#[]⟩] w fun e w'=>Is4 [] w' e/\Bw w w':=by
 have v:Bw w ((w.alloc (.cells zE.toArray 105)).alloc (.cells zE.toArray 105)):=o7.alloc I4 _;go_enter func54,ntmps54
 go_wp2_with fail
 refine (IY ⟨#[]⟩ 10 _ O6).mono ?_;rintro e j ⟨⟨g2,cp,rfl,s,c⟩,u⟩;have q:((w.alloc (.cells zE.toArray 105)).alloc (.cells zE.toArray 105)).heap.size=w.heap.size+2:=I4;have b:Below (w.heap.size+2) ((w.alloc (.cells zE.toArray 105)).alloc (.cells zE.toArray 105)) j:=u.mono I4;have E:w.heap.size+2<=g2:=by have h:=s;simp at h;omega
 have B:w.heap.size+2<=j.heap.size:=by have h:=b.size;rw [q] at h;exact h
 have x:=((I5 w zE 105).below o7 I4).below b O0;have o:=((N8 w zE.toArray 105).below o7 I4).below b O0;have y:=X4.below (by have h:=I5 (w.alloc (.cells zE.toArray 105)) zE 105;simp at h;exact h) b O0;have p:=Y5.below (by have h:=N8 (w.alloc (.cells zE.toArray 105)) zE.toArray 105;simp at h;exact h) b O0;have g:=v.trans (b.mono O0);have f:=Qi 10 ([]:List UInt8);have m:=Oe 10 ([]:List UInt8);clear u s q b;obtain ⟨d,n⟩:∃ d,d=L8 10 ([]:List UInt8):=⟨_,rfl⟩;rw [<- n] at c f m ⊢;have O:=U0 n.symm;have Q:Hid (∀ k,(d.getD k []).length<=16000):=fun k=>Q7 (m k) I4;obtain ⟨F,hF⟩:∃ F,F=d.getD 0 []:=⟨_,rfl⟩;have P:=U0 hF.symm;have hFl:F.length<=16000:=by rw [hF];exact Q.out 0
 have H:=f.1;have a3O:d.length<=16001:=by have:=f.2;simp at this;omega
 have L:j.cell? (aA g2 0)=some (vS (Y2 F)):=by rw [hF];exact c.2 0 H
 have D:=c.1;clear hF n m f
 go_wp2_with fail
 refine (Vz F _ O0 1 O0 O0).mono ?_;rintro e i ⟨⟨g3,cp3,rfl,C,l⟩,a⟩;have A:=a.size;have bR:=X4.below x a O0;have z:=Y5.below o a O0;have bM:=X4.below y a O0;have oM:=Y5.below p a O0;have hL3:=U0 (Qc c a);have J:=G7 g a;have K:i.cell? (aA g3 0)=some (vS (Y2 (O1 F))):=l.2 0 (by simp [w_]);have a3J:=l.1;have hrs:=X7 F;have r:Y2 (S9 F 1)=Y2 (Y1 F):=rfl;rw [r];clear r a x o y p c g l L v;have I:F=[]:=by rw [<- P.out,<- O.out];rfl
 subst I;have t:Y2 (O1 [])=⟨#[]⟩:=rfl;rw [t] at K;clear t;have hMz:w.heap.size+1<i.heap.size:=O0;have hRB:w.heap.size<w.heap.size+1:=O0;have a3K:w.heap.size+1<g3:=O0;have a3P:w.heap.size+1<g2:=O0;have a3l:g2<i.heap.size:=O0;clear C D E B A;generalize w.heap.size+1=Bm at*;have N:=U0 (QK (.inl rfl));have g:=J
 go_wp2_with (refine J7 rfl 105 (.tmp 2) (.tmp 122) rfl w.heap.size 0 rfl zE rfl (d_ bR zE rfl) z (by simp [zE,Value.oneCell']) J3 rfl ?_)
 exact Xj N.out rfl rfl rfl bR g
