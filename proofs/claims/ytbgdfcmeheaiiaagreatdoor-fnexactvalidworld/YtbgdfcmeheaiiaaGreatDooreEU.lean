import Derived.Test.YtbgdfcmeheaiiaaGreatDooreEO
import Derived.Test.YtbgdfcmeheaiiaaGreatDoorvQ
set_option linter.unusedVariables false
set_option maxHeartbeats 8000000
set_option maxRecDepth 100000
set_option linter.unusedSimpArgs false
namespace Go.Proofs.YtbgdfcmeheaiiaaGreatDoor
open Proofs.Tryz Go.RowKit Go.Maps
variable{W:Int}{t x:BY}{ts:LB}
def kn(K:Int)(rs:List R3)(i:Nat):Int:=K+2*(i:Int)+3*(Iy (rs.take i):Int)
open Go.RowKit
theorem c77(a J:OA)(R Q:Nat)(is:List Rn)(w:World)(hl:is.length<=1048576)(r:∀i,(is.getD i Aa).ls.length<=1048576)(E:uj w a is)(D:uj w J is):
 Calls prog 77 #[.slice a is.length R,.slice J is.length Q] w λe w'=>e=.returned (.bool true)/\Bw w w':=by
 obtain⟨b,off,hc⟩:=J8 E;have Y:=U0 hc;obtain⟨b',q,v⟩:=J8 D;have X:=U0 v;have V:=U0 r;clear hc E v D r
 go_in
 go_wp2;go_loopw[5] (λi wr=>∃(k:Nat),k<=is.length/\i=.int .i64 k/\Below w.heap.size w wr) (λi _=>is.length-(RowKit.intOf i).toNat);exact⟨0,I4 _,rfl,J4 _ _⟩;obtain⟨k,hk,rfl,c⟩:=hrel;by_cases d:k<is.length;rotate_left
 ·go_wp2;go_ret;exact⟨rfl,c⟩
 obtain⟨ha,C,t⟩:=Zb Y.out d;obtain⟨P,A,s⟩:=Zb X.out d;subst ha;subst P;have hd:Bw wr wr.drew:=(J4 _ _).drew;have z:=G9 C c.size;have y:=G9 A c.size;obtain⟨n,l,I,H⟩:=((t k d).below C c).below z hd;obtain⟨m,h,p,o⟩:=((s k d).below A c).below y hd;have O:=V.out k;generalize is.getD k Aa=x at*;have Z:=U0 H;have U:=U0 o;have N:=U0 I;have L:=U0 p;have W:=U0 (P5 c hd);clear t s H o I p hd
 go_wp2_with fail
 refine wp_region_held_drew (S:=λu=>Bc u b (off+k*6) (YC (x,vL n x.ls.length l))/\Bc u b' (q+k*6) (YC (x,vL m x.ls.length h))) Y0 ⟨N.out,L.out⟩ λhH=>?_
 iterate 3 refine sq ?_
 refine tq 3 hH ?_ (hv:=λu f=>I7 178 _ rfl (B:=b) (j:=off+k*6) (cs:=YC (x,vL n x.ls.length l)) rfl f.1 underlying178 rfl Y0)
 iterate 3 refine sq ?_
 refine tq 7 hH ?_ (hv:=λu f=>I7 178 _ rfl (B:=b') (j:=q+k*6) (cs:=YC (x,vL m x.ls.length h)) rfl f.2 underlying178 rfl Y0)
 try simp only[qq]
 refine rq 8 λK F=>?_;go_simp;refine(a3j x n m l h wr.drew O Z.out U.out).mono ?_;rintro e w1⟨rfl,g⟩
 go_wp2_with fail
 refine X8 F ⟨N.out.below z g,L.out.below y g⟩ λhH=>?_;clear F K;refine sq ?_;refine wdn ?_;go_wp2;go_roundw;exact⟨k+1,O0,by go_num,P5 W.out g⟩;exact P9
theorem a2j(a o:OA)(z y:Nat)(is:List R3)(w:World)(hl:is.length<=1048576)(f:∀i,(is.getD i j_).gs.length<=1048576)(m:Eg w a is)(l:Eg w o is):
 Calls prog 135 #[.slice a is.length z,.slice o is.length y] w λe w'=>e=.returned (.bool true)/\Bw w w':=by
 obtain⟨b,off,hc⟩:=Ue m;have H:=U0 hc;obtain⟨b',off',j⟩:=Ue l;have F:=U0 j;have C:=U0 f;clear hc m j l f
 go_in
 go_wp2;go_loopw[5] (λi wr=>∃(k:Nat),k<=is.length/\i=.int .i64 k/\Below w.heap.size w wr) (λi _=>is.length-(RowKit.intOf i).toNat);exact⟨0,I4 _,rfl,J4 _ _⟩;obtain⟨k,hk,rfl,c⟩:=hrel;by_cases d:k<is.length
 ·obtain⟨ha,r,h⟩:=Zb H.out d;obtain⟨t,q,g⟩:=Zb F.out d;subst ha;subst t;obtain⟨B,v,e0,e1,e2,n⟩:=(h k d).below r c;obtain⟨A,u,f0,f1,f2,f3⟩:=(g k d).below q c;have p:=C.out k;generalize is.getD k j_=x at*;have E:=U0 n;have D:=U0 f3;clear h g n f3
  go_wp2_with fail
  go_region_with(go_at_call 198;refine(c198 x B A v u _ p (V8 E.out (J4 _ _).drew) (V8 D.out (J4 _ _).drew)).mono ?_;rintro e w1⟨rfl,s⟩)
  all_goals go_wp2
  all_goals go_roundw
  all_goals first
   | exact⟨k+1,O0,by go_num,(c.drew).trans (s.mono c.size)⟩
   | (exact P9)
 go_wp2;go_ret;exact⟨rfl,c⟩
theorem a2Y(ta ra b a:OA)(tc rc f c:Nat)(s:St)(w:World)(g:s.ts.length<=1048576/\s.rs.length<=1048576/\∀i,(s.rs.getD i j_).gs.length<=1048576)(k:Ig w ta ra s)(j:Ig w b a s):
 Calls prog 74 #[.agg #[.int .i64 s.wd,.slice ta s.ts.length tc,.slice ra s.rs.length rc],.agg #[.int .i64 s.wd,.slice b s.ts.length f,.slice a s.rs.length c]] w λe w'=>e=.returned (.bool true)/\Bw w w':=by
 have p:=U0 g;have u:=U0 k;have t:=U0 j;have m:Bw w ((w.alloc (.cells #[vI s.wd,vL ta s.ts.length tc,vL ra s.rs.length rc] 49)).alloc (.cells #[vI s.wd,vL b s.ts.length f,vL a s.rs.length c] 49)):=P6.alloc O4 _;have o:=c76 ta b tc f s.ts _ g.1 (X5 k.1 m) (X5 j.1 m);clear g k j
 go_in
 go_wp2_with fail
 refine o.mono ?_;rintro e d⟨rfl,h⟩;have l:=m.trans (h.mono X7);have g2:d.cell? ⟨w.heap.size,2,none⟩=some (vL ra s.rs.length rc):=by rw[h.cell X7];simp[go_sem]
 have g3:d.cell? ⟨w.heap.size+1,2,none⟩=some (vL a s.rs.length c):=by rw[h.cell O4];simp[go_sem]
 have n:=a2j ra a rc c s.rs d p.out.2.1 p.out.2.2 (oh u.out.2 l) (oh t.out.2 l);clear o
 go_wp2_with fail
 refine n.mono ?_;rintro e w2⟨rfl,q⟩;have r:=P5 l q;clear n;go_wp2;go_ret;exact⟨rfl,r⟩
theorem VP(s:BY)(w:World)(h1:1<=s.size)(h16:s.size<=16000)(hw:O1 ((L8 10 s.data.toList).getD 0 [])≠Dk/\O1 ((L8 10 s.data.toList).getD 0 [])≠Xd/\O1 ((L8 10 s.data.toList).getD 0 [])≠Ph/\O1 ((L8 10 s.data.toList).getD 0 [])≠dh/\O1 ((L8 10 s.data.toList).getD 0 [])≠Fg):
 Calls prog 89 #[.string s] w λe w'=>Is4 s.data.toList w' e/\Bw w w':=by
 have R:Bw w ((w.alloc (.cells zE.toArray 168)).alloc (.cells zE.toArray 168)):=P6.alloc O4 _;have J:s.data.toList.length=s.size:=O4;have Y:Hid (s.data.toList≠[]):=λh=>by rw[h]at J;simp at J;omega
 have hse:(s.toList==[])=false:=by
  rw[ByteArray.toList_eq];exact K_.2 Y.out
 have a5P:¬s.toList=[]:=by simpa using hse
 have a5Q:decide (16000<(s.size:Int))=false:=X7
 go_in
 go_wp2_with fail
 refine(mQ s 10 _ O0).mono ?_;rintro e u⟨⟨g2,cp,rfl,N,j⟩,O⟩;have I:((w.alloc (.cells zE.toArray 168)).alloc (.cells zE.toArray 168)).heap.size=w.heap.size+2:=O4;have b:Below (w.heap.size+2) ((w.alloc (.cells zE.toArray 168)).alloc (.cells zE.toArray 168)) u:=O.mono O4;have a5l:w.heap.size+2<=g2:=by have h:=N;simp at h;omega
 have hz1:w.heap.size+2<=u.heap.size:=by have h:=b.size;rw[I]at h;exact h
 have S:=((I9 w zE 168).below P6 O4).below b O0;have E:=((Rf w zE.toArray 168).below P6 O4).below b O0;have U:=E5.below (by have h:=I9 (w.alloc (.cells zE.toArray 168)) zE 168;simp at h;exact h) b O0;have H:=o9.below (by have h:=Rf (w.alloc (.cells zE.toArray 168)) zE.toArray 168;simp at h;exact h) b O0;have l:=R.trans (b.mono O0);have q:=Sm 10 s.data.toList;have x:=yh 10 s.data.toList;clear O N I b;obtain⟨m,y⟩:∃m,m=L8 10 s.data.toList:=⟨_,rfl⟩;rw[<- y]at j q x hw ⊢;have n:=U0 y.symm;have HCS:Hid (∀k,(m.getD k []).length<=16000):=λk=>Q8 (x k) O0;obtain⟨F,hF⟩:∃F,F=m.getD 0 []:=⟨_,rfl⟩;have p:=U0 hF.symm;have hFl:F.length<=16000:=by rw[hF];exact HCS.out 0
 rw[<- hF]at hw;have a5m:=q.1;have a5I:m.length<=16001:=by have:=q.2;omega
 have c0:u.cell? (aA g2 0)=some (vS (Y2 F)):=by rw[hF];exact j.2 0 a5m
 have a5n:=j.1;clear hF y x q
 go_wp2_with fail
 refine(Vs F _ O0 1 O0 O0).mono ?_;rintro e d⟨⟨g3,cp3,rfl,hg3,v⟩,a⟩;have hz3:=a.size;have bR:=E5.below S a O0;have Z:=o9.below E a O0;have bM:=E5.below U a O0;have oM:=o9.below H a O0;have hL3:=U0 (ug j a);have hB3:=P5 l a;have d0:d.cell? (aA g3 0)=some (vS (Y2 (O1 F))):=v.2 0 (by simp[H_]);have a5z:=v.1;have hrs:=H8 F;have K:Y2 (d_ F 1)=Y2 (Y1 F):=rfl;rw[K];clear K a S E U H j l v c0 R;have hMz:w.heap.size+1<d.heap.size:=O0;have hRB:w.heap.size<w.heap.size+1:=O0;have a5A:w.heap.size+1<g3:=O0;have a5J:w.heap.size+1<g2:=O0;have a5o:g2<d.heap.size:=O0;clear hg3 a5n a5l hz1 hz3;generalize w.heap.size+1=D at*;have r:Hid (eX s.data.toList Ji):=aP _ (by rw[n.out,p.out];exact hw.1) (by rw[n.out,p.out];exact hw.2.1) (by rw[n.out,p.out];exact hw.2.2.1) (by rw[n.out,p.out];exact hw.2.2.2.1) (by rw[n.out,p.out];exact hw.2.2.2.2);have n4:((Y2 (O1 F)).toList==[114,97,110])=false:=by
  rw[ByteArray.toList_eq,Q9];exact K_.2 hw.1
 have m4:¬(Y2 (O1 F)).toList=[114,97,110]:=by simpa using n4
 have n1:((Y2 (O1 F)).toList==[101,112,111,99,104])=false:=by
  rw[ByteArray.toList_eq,Q9];exact K_.2 hw.2.1
 have m1:¬(Y2 (O1 F)).toList=[101,112,111,99,104]:=by simpa using n1
 have n2:((Y2 (O1 F)).toList==[102,105,108,101])=false:=by
  rw[ByteArray.toList_eq,Q9];exact K_.2 hw.2.2.1
 have m2:¬(Y2 (O1 F)).toList=[102,105,108,101]:=by simpa using n2
 have n3:((Y2 (O1 F)).toList==[100,114,111,112])=false:=by
  rw[ByteArray.toList_eq,Q9];exact K_.2 hw.2.2.2.1
 have m3:¬(Y2 (O1 F)).toList=[100,114,111,112]:=by simpa using n3
 have n5:((Y2 (O1 F)).toList==[99,108,101,97,114])=false:=by
  rw[ByteArray.toList_eq,Q9];exact K_.2 hw.2.2.2.2
 have m5:¬(Y2 (O1 F)).toList=[99,108,101,97,114]:=by simpa using n5
 clear hw;have B:E5 d D (Ji.c none 0):=bM;have V:=bR;have X:=Z;have Q:=hB3;have hMU:=hMz;have P:w.heap.size<d.heap.size:=O0;have C:X6 d none Ji.ls:=.inl rfl;have L:=VJ;have a5B:∀g o,(none:OA)=some (aA g o)->g≠w.heap.size:=λ_ _ h=>by cases h
 generalize Y2 (O1 F)=wd at*
 go_wp2_with(refine Fa (by rfl) 168 (.tmp 4) rfl D rfl ((Ji).c none 0) _ B underlying168 rfl Y0 ?_)
 refine(VN (Ji) none 0 _ L C).mono ?_;rintro e U1⟨⟨i,rfl,hT⟩,f⟩;have HM1:=E5.below B f hMU;have t:=E5.below V f P;have W:=o9.below X f P;have l:=P5 Q f;have a5C:=Z4 C f;clear B V X C Q f;by_cases he:i.data.toList=s.data.toList
 ·have A:=U0 (Lp r hT Y he);have z:i.toList=s.toList:=by rw[ByteArray.toList_eq,ByteArray.toList_eq];exact he
  have e1:(i.toList==s.toList)=true:=by simpa using z
  clear hT r he
  go_wp2_with(first|refine Nb rfl 168 (.tmp 4) rfl D rfl ((Ji).c none 0) _ HM1 underlying168 rfl Y0 ?_|refine J7 rfl 168 (.tmp 2) (.tmp 123) rfl w.heap.size 0 rfl ((Ji).c none 0) rfl (g_ t _ rfl) W (u_.wC _ _ _) Y0 rfl ?_)
  exact yJ (Ji) none 0 true A (λh=>by cases h) L (Nk _ a5C a5B) rfl rfl rfl t l
 have A:=U0 (uw r hT he);have z:¬i.toList=s.toList:=by rw[ByteArray.toList_eq,ByteArray.toList_eq];exact he
 have e1:(i.toList==s.toList)=false:=by simpa using z
 clear hT r he
 go_wp2_with(refine J7 rfl 168 (.tmp 2) (.tmp 122) rfl w.heap.size 0 rfl zE rfl (g_ t zE rfl) W (by simp[zE,Value.oneCell']) Y0 rfl ?_)
 exact Xj A rfl rfl rfl t l
theorem TY(c:Int)(s a:BY)(w:World)(hf:BB c s=a)(b:s.size<=1048700):Calls prog 215 #[.agg #[.int .i64 c,.string s]] w λe w'=>e=.returned (.string a)/\Bw w w':=by
 rw[<- hf];exact WQ c s w b
theorem nN(W:Int)(t:BY)(ts:LB):(Zl W t ts).length=ts.length+1:=by
 induction ts with
 | nil=>rfl
 | cons y r ih=>
  unfold Zl;split
  ·rfl
  rw[x_,ih,x_]
theorem uS(h:x∈Zl W t ts):x=t\/x∈ts:=by
 induction ts with
 | nil=>exact .inl (jo.1 h)
 | cons y r ih=>
  unfold Zl at h;split at h
  ·rcases je.1 h with h|h
   ·exact .inl h
   exact .inr h
  rcases je.1 h with h|h
  ·exact .inr (h▸Nq)
  exact(ih h).imp id (vg _)
theorem DN(W:Int)(t:BY)(ts:LB):(Fb W t ts).1.length<=ts.length+1:=by
 unfold Fb;split
 ·exact Nat.le_succ _
 exact Zj (nN W t ts)
theorem DT(h:x∈(Fb W t ts).1):x=t\/x∈ts:=by
 unfold Fb at h;split at h
 ·exact .inr h
 exact uS h
theorem ZH(W:Int)(a:LB):∀s:LB×Bool,(Q7 W a s).1.length<=s.1.length+a.length:=by
 induction a with
 | nil=>exact λs=>J9 _
 | cons t r ih=>
  intro s;have h1:=ih ((Fb W t s.1).1,s.2&&(Fb W t s.1).2);have h2:=DN W t s.1;show(Q7 W r _).1.length<=_;rw[x_];simp only[]at h1;omega
theorem Nz(a:LB):∀s:LB×Bool,x∈(Q7 W a s).1->x∈a\/x∈s.1:=by
 induction a with
 | nil=>exact λs h=>.inr h
 | cons t r ih=>
  intro s h;rcases ih ((Fb W t s.1).1,s.2&&(Fb W t s.1).2) h with h|h
  ·exact .inl (vg _ h)
  rcases DT h with h|h
  ·exact .inl (h▸Nq)
  exact .inr h
theorem ax(W:Int)(a:LB)(t:BY)(s:LB×Bool):Q7 W (a++[t]) s=((Fb W t (Q7 W a s).1).1,(Q7 W a s).2&&(Fb W t (Q7 W a s).1).2):=by
 rw[Am];rfl
theorem kN(ls:List L4):(B_ ls).length<=ls.length:=by
 induction ls with
 | nil=>exact J9 _
 | cons x r ih=>
  unfold B_;split
  ·exact DJ ih
  exact Nat.succ_le_succ ih
def pK(ls:List L4)(k:Nat):LB:=(B_ (ls.take k)).map λr=>BB r.1 r.2
theorem ZP{ls:List L4}{k:Nat}(a:k<ls.length):pK ls (k+1)=pK ls k++(if (ls.getD k l_).has then [] else [BB (ls.getD k l_).cd (ls.getD k l_).tx]):=by
 have e:ls.take (k+1)=ls.take k++[ls.getD k l_]:=by
  rw[Bz a];simp only[List.getD,D9 a,Hg]
 unfold pK;rw[e,Du,Gl];split<;>rfl
theorem XW(ls:List L4)(k:Nat):(pK ls k).length<=ls.length:=by
 unfold pK;rw[Je];have:=kN (ls.take k);have:=List.length_take_le' k ls;omega
theorem a1D(ls:List L4)(c:Int)(t:BY):Sl ls c t=pK ls ls.length++[BB c t]:=by
 unfold Sl pK;rw[qp,Gl];rfl
theorem MN(w:World):
 Calls prog 89 #[.string ⟨#[]⟩] w λe w'=>Is4 [] w' e/\Bw w w':=by
 have v:Bw w ((w.alloc (.cells zE.toArray 168)).alloc (.cells zE.toArray 168)):=P6.alloc O4 _
 go_in
 go_wp2_with fail
 refine(mQ ⟨#[]⟩ 10 _ J6).mono ?_;rintro e j⟨⟨g2,cp,rfl,s,c⟩,u⟩;have q:((w.alloc (.cells zE.toArray 168)).alloc (.cells zE.toArray 168)).heap.size=w.heap.size+2:=O4;have b:Below (w.heap.size+2) ((w.alloc (.cells zE.toArray 168)).alloc (.cells zE.toArray 168)) j:=u.mono O4;have E:w.heap.size+2<=g2:=by have h:=s;simp at h;omega
 have B:w.heap.size+2<=j.heap.size:=by have h:=b.size;rw[q]at h;exact h
 have x:=((I9 w zE 168).below P6 O4).below b O0;have o:=((Rf w zE.toArray 168).below P6 O4).below b O0;have y:=E5.below (by have h:=I9 (w.alloc (.cells zE.toArray 168)) zE 168;simp at h;exact h) b O0;have p:=o9.below (by have h:=Rf (w.alloc (.cells zE.toArray 168)) zE.toArray 168;simp at h;exact h) b O0;have g:=v.trans (b.mono O0);have f:=Sm 10 ([]:List UInt8);have m:=yh 10 ([]:List UInt8);clear u s q b;obtain⟨d,n⟩:∃d,d=L8 10 ([]:List UInt8):=⟨_,rfl⟩;rw[<- n]at c f m ⊢;have O:=U0 n.symm;have Q:Hid (∀k,(d.getD k []).length<=16000):=λk=>Q8 (m k) O4;obtain⟨F,hF⟩:∃F,F=d.getD 0 []:=⟨_,rfl⟩;have P:=U0 hF.symm;have hFl:F.length<=16000:=by rw[hF];exact Q.out 0
 have H:=f.1;have a5I:d.length<=16001:=by have:=f.2;simp at this;omega
 have L:j.cell? (aA g2 0)=some (vS (Y2 F)):=by rw[hF];exact c.2 0 H
 have D:=c.1;clear hF n m f
 go_wp2_with fail
 refine(Vs F _ O0 1 O0 O0).mono ?_;rintro e i⟨⟨g3,cp3,rfl,C,l⟩,a⟩;have A:=a.size;have bR:=E5.below x a O0;have z:=o9.below o a O0;have bM:=E5.below y a O0;have oM:=o9.below p a O0;have hL3:=U0 (ug c a);have J:=P5 g a;have K:i.cell? (aA g3 0)=some (vS (Y2 (O1 F))):=l.2 0 (by simp[H_]);have a5z:=l.1;have hrs:=H8 F;have r:Y2 (d_ F 1)=Y2 (Y1 F):=rfl;rw[r];clear r a x o y p c g l L v;have I:F=[]:=by rw[<- P.out,<- O.out];rfl
 subst I;have t:Y2 (O1 [])=⟨#[]⟩:=rfl;rw[t]at K;clear t;have hMz:w.heap.size+1<i.heap.size:=O0;have hRB:w.heap.size<w.heap.size+1:=O0;have a5A:w.heap.size+1<g3:=O0;have a5J:w.heap.size+1<g2:=O0;have a5o:g2<i.heap.size:=O0;clear C D E B A;generalize w.heap.size+1=Bm at*;have N:=U0 (xK (.inl rfl));have g:=J
 go_wp2_with(refine J7 rfl 168 (.tmp 2) (.tmp 122) rfl w.heap.size 0 rfl zE rfl (g_ bR zE rfl) z (by simp[zE,Value.oneCell']) Y0 rfl ?_)
 exact Xj N.out rfl rfl rfl bR g
