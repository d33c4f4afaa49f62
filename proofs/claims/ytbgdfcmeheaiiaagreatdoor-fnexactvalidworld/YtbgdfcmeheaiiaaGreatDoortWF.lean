import Derived.Test.YtbgdfcmeheaiiaaGreatDooreEO
import Derived.Test.YtbgdfcmeheaiiaaGreatDoorvQ
set_option linter.unusedVariables false
set_option linter.unusedSimpArgs false
set_option maxHeartbeats 8000000
set_option maxRecDepth 100000
namespace Go.Proofs.YtbgdfcmeheaiiaaGreatDoor
open Proofs.Tryz Go.RowKit
theorem dF(s:BY)(w:World)(h1:1<=s.size)(h16:s.size<=16000)(hw:O1 ((L8 10 s.data.toList).getD 0 [])=Fg\/O1 ((L8 10 s.data.toList).getD 0 [])=dh\/O1 ((L8 10 s.data.toList).getD 0 [])=Xd):
 Calls prog 89 #[.string s] w λe w'=>Is4 s.data.toList w' e/\Bw w w':=by
 have hB0:Bw w ((w.alloc (.cells zE.toArray 168)).alloc (.cells zE.toArray 168)):=P6.alloc O4 _;have hsl:s.data.toList.length=s.size:=O4;have W:Hid (s.data.toList≠[]):=λh=>by rw[h]at hsl;simp at hsl;omega
 have hse:(s.toList==[])=false:=by
  rw[ByteArray.toList_eq];exact K_.2 W.out
 have a5P:¬s.toList=[]:=by simpa using hse
 have a5Q:decide (16000<(s.size:Int))=false:=X7
 go_in
 go_wp2_with fail
 refine(mQ s 10 _ O0).mono ?_;rintro e X⟨⟨g2,cp,rfl,hg2,P⟩,hb1⟩;have a5i:((w.alloc (.cells zE.toArray 168)).alloc (.cells zE.toArray 168)).heap.size=w.heap.size+2:=O4;have H:Below (w.heap.size+2) ((w.alloc (.cells zE.toArray 168)).alloc (.cells zE.toArray 168)) X:=hb1.mono O4;have a5l:w.heap.size+2<=g2:=by have h:=hg2;simp at h;omega
 have hz1:w.heap.size+2<=X.heap.size:=by have h:=H.size;rw[a5i]at h;exact h
 have bR1:=((I9 w zE 168).below P6 O4).below H O0;have oR1:=((Rf w zE.toArray 168).below P6 O4).below H O0;have bM1:=E5.below (by have h:=I9 (w.alloc (.cells zE.toArray 168)) zE 168;simp at h;exact h) H O0;have oM1:=o9.below (by have h:=Rf (w.alloc (.cells zE.toArray 168)) zE.toArray 168;simp at h;exact h) H O0;have l:=hB0.trans (H.mono O0);have V:=Sm 10 s.data.toList;have Z:=yh 10 s.data.toList;clear hb1 hg2 a5i H;obtain⟨R,hLs⟩:∃R,R=L8 10 s.data.toList:=⟨_,rfl⟩;rw[<- hLs]at P V Z hw ⊢;have HLS:=U0 hLs.symm;have HCS:Hid (∀k,(R.getD k []).length<=16000):=λk=>Q8 (Z k) O0;obtain⟨F,hF⟩:∃F,F=R.getD 0 []:=⟨_,rfl⟩;have HF:=U0 hF.symm;have hFl:F.length<=16000:=by rw[hF];exact HCS.out 0
 rw[<- hF]at hw;have a5m:=V.1;have a5I:R.length<=16001:=by have:=V.2;omega
 have c0:X.cell? (aA g2 0)=some (vS (Y2 F)):=by rw[hF];exact P.2 0 a5m
 have a5n:=P.1;clear hF hLs Z V
 go_wp2_with fail
 refine(Vs F _ O0 1 O0 O0).mono ?_;rintro e b⟨⟨g3,cp3,rfl,hg3,Y⟩,y⟩;have hz3:=y.size;have bR:=E5.below bR1 y O0;have J:=o9.below oR1 y O0;have r:=E5.below bM1 y O0;have u:=o9.below oM1 y O0;have hL3:=U0 (ug P y);have K:=P5 l y;have d0:b.cell? (aA g3 0)=some (vS (Y2 (O1 F))):=Y.2 0 (by simp[H_]);have a5z:=Y.1;have hrs:=H8 F;have hrN:Y2 (d_ F 1)=Y2 (Y1 F):=rfl;rw[hrN];clear hrN y bR1 oR1 bM1 oM1 P l Y c0 hB0;have hMz:w.heap.size+1<b.heap.size:=O0;have hRB:w.heap.size<w.heap.size+1:=O0;have a5A:w.heap.size+1<g3:=O0;have a5J:w.heap.size+1<g2:=O0;have a5o:g2<b.heap.size:=O0;clear hg3 a5n a5l hz1 hz3;generalize w.heap.size+1=a at*;rcases hw with hw|hw|hw
 ·have i:=U0 (a1F (by rw[HLS.out];exact HF.out) hw);have HW:=U0 hw;have x:Y2 (O1 F)=⟨#[99,108,101,97,114]⟩:=by rw[hw];rfl
  rw[x]at d0;clear hw x;have k0:=r 0 _ rfl;have f0:=u 0;have p:E5 (b.setCell (aA a 0) (vI 5)) a ((U_).c none 0):=r.set 0 (vI 5) (by show 0<10;omega);have B:E5 (b.setCell (aA a 0) (vI 5)) w.heap.size zE:=bR.other _ _ (by show a≠w.heap.size;omega);have D:o9 (b.setCell (aA a 0) (vI 5)) w.heap.size:=J.set _ _;have A:Bw w (b.setCell (aA a 0) (vI 5)):=K.setCell (by show w.heap.size<=a;omega) _;have O:a<(b.setCell (aA a 0) (vI 5)).heap.size:=X7;have z:w.heap.size<(b.setCell (aA a 0) (vI 5)).heap.size:=X7;have q:X6 (b.setCell (aA a 0) (vI 5)) none (U_).ls:=.inl rfl;have v:(U_).le 1048576:=⟨I4 _,I4 _,⟨I4 _,I4 _,I4 _⟩,⟨I4 _,λ_=>⟨I4 _,I4 _⟩⟩,I4 _⟩;have Q:∀g o,(none:OA)=some (aA g o)->g≠w.heap.size:=λ_ _ h=>by cases h
  clear r u bR J K
  go_wp2_with(refine Fa (by rfl) 168 (.tmp 4) rfl a rfl ((U_).c none 0) _ p underlying168 rfl Y0 ?_)
  refine(VN (U_) none 0 _ v q).mono ?_;rintro e U1⟨⟨f,rfl,hT⟩,d⟩;have S:=E5.below p d O;have j:=E5.below B d z;have C:=o9.below D d z;have l:=P5 A d;have U:=Z4 q d;clear p B D q A d;by_cases he:f.data.toList=s.data.toList
  ·have n:=U0 (Lp i hT W he);have m:f.toList=s.toList:=by rw[ByteArray.toList_eq,ByteArray.toList_eq];exact he
   have e1:(f.toList==s.toList)=true:=by simpa using m
   clear hT i he
   go_wp2_with(first|refine Nb rfl 168 (.tmp 4) rfl a rfl ((U_).c none 0) _ S underlying168 rfl Y0 ?_|refine J7 rfl 168 (.tmp 2) (.tmp 123) rfl w.heap.size 0 rfl ((U_).c none 0) rfl (g_ j _ rfl) C (u_.wC _ _ _) Y0 rfl ?_)
   exact yJ (U_) none 0 true n (λh=>by cases h) v (Nk _ U Q) rfl rfl rfl j l
  have n:=U0 (uw i hT he);have m:¬f.toList=s.toList:=by rw[ByteArray.toList_eq,ByteArray.toList_eq];exact he
  have e1:(f.toList==s.toList)=false:=by simpa using m
  clear hT i he
  go_wp2_with(refine J7 rfl 168 (.tmp 2) (.tmp 122) rfl w.heap.size 0 rfl zE rfl (g_ j zE rfl) C (by simp[zE,Value.oneCell']) Y0 rfl ?_)
  exact Xj n rfl rfl rfl j l
 ·have i:=U0 (a1w (by rw[HLS.out];exact HF.out) hw);have HW:=U0 hw;have x:Y2 (O1 F)=⟨#[100,114,111,112]⟩:=by rw[hw];rfl
  rw[x]at d0;clear hw x;have k0:=r 0 _ rfl;have f0:=u 0;have k2:=r 2 _ rfl;have f2:=u 2;have p:E5 ((b.setCell (aA a 0) (vI 3)).setCell (aA a 2) (vS (Y2 (Y1 F)))) a ((Vb (Y2 (Y1 F))).c none 0):=(r.set 0 (vI 3) (by show 0<10;omega)).set 2 (vS (Y2 (Y1 F))) (by show 2<10;omega);have B:E5 ((b.setCell (aA a 0) (vI 3)).setCell (aA a 2) (vS (Y2 (Y1 F)))) w.heap.size zE:=(bR.other _ _ (by show a≠w.heap.size;omega)).other _ _ (by show a≠w.heap.size;omega);have D:o9 ((b.setCell (aA a 0) (vI 3)).setCell (aA a 2) (vS (Y2 (Y1 F)))) w.heap.size:=(J.set _ _).set _ _;have A:Bw w ((b.setCell (aA a 0) (vI 3)).setCell (aA a 2) (vS (Y2 (Y1 F)))):=(K.setCell (by show w.heap.size<=a;omega) _).setCell (by show w.heap.size<=a;omega) _;have O:a<((b.setCell (aA a 0) (vI 3)).setCell (aA a 2) (vS (Y2 (Y1 F)))).heap.size:=X7;have z:w.heap.size<((b.setCell (aA a 0) (vI 3)).setCell (aA a 2) (vS (Y2 (Y1 F)))).heap.size:=X7;have q:X6 ((b.setCell (aA a 0) (vI 3)).setCell (aA a 2) (vS (Y2 (Y1 F)))) none (Vb (Y2 (Y1 F))).ls:=.inl rfl;have v:(Vb (Y2 (Y1 F))).le 1048576:=⟨by show(Y2 (Y1 F)).size<=1048576;rw[Y4];omega,I4 _,⟨I4 _,I4 _,I4 _⟩,⟨I4 _,λ_=>⟨I4 _,I4 _⟩⟩,I4 _⟩;have Q:∀g o,(none:OA)=some (aA g o)->g≠w.heap.size:=λ_ _ h=>by cases h
  clear r u bR J K;generalize Y2 (Y1 F)=L at*
  go_wp2_with(refine Fa (by rfl) 168 (.tmp 4) rfl a rfl ((Vb L).c none 0) _ p underlying168 rfl Y0 ?_)
  refine(VN (Vb L) none 0 _ v q).mono ?_;rintro e U1⟨⟨f,rfl,hT⟩,d⟩;have S:=E5.below p d O;have j:=E5.below B d z;have C:=o9.below D d z;have l:=P5 A d;have U:=Z4 q d;clear p B D q A d;by_cases he:f.data.toList=s.data.toList
  ·have n:=U0 (Lp i hT W he);have m:f.toList=s.toList:=by rw[ByteArray.toList_eq,ByteArray.toList_eq];exact he
   have e1:(f.toList==s.toList)=true:=by simpa using m
   clear hT i he
   go_wp2_with(first|refine Nb rfl 168 (.tmp 4) rfl a rfl ((Vb L).c none 0) _ S underlying168 rfl Y0 ?_|refine J7 rfl 168 (.tmp 2) (.tmp 123) rfl w.heap.size 0 rfl ((Vb L).c none 0) rfl (g_ j _ rfl) C (u_.wC _ _ _) Y0 rfl ?_)
   exact yJ (Vb L) none 0 true n (λh=>by cases h) v (Nk _ U Q) rfl rfl rfl j l
  have n:=U0 (uw i hT he);have m:¬f.toList=s.toList:=by rw[ByteArray.toList_eq,ByteArray.toList_eq];exact he
  have e1:(f.toList==s.toList)=false:=by simpa using m
  clear hT i he
  go_wp2_with(refine J7 rfl 168 (.tmp 2) (.tmp 122) rfl w.heap.size 0 rfl zE rfl (g_ j zE rfl) C (by simp[zE,Value.oneCell']) Y0 rfl ?_)
  exact Xj n rfl rfl rfl j l
 have i:=U0 (a2F (by rw[HLS.out];exact HF.out) hw);have HW:=U0 hw;have x:Y2 (O1 F)=⟨#[101,112,111,99,104]⟩:=by rw[hw];rfl
 rw[x]at d0;clear hw x;have k0:=r 0 _ rfl;have f0:=u 0
 go_wp2_with fail
 refine(QZ (Y2 (Y1 F)) _ (by rw[Y4];omega)).mono ?_;rintro e t⟨rfl,I⟩;rw[Q9];have E:(b.setCell (aA a 0) (vI 1)).heap.size=b.heap.size:=O4;have hz4:b.heap.size<=t.heap.size:=by have h:=I.size;rw[E]at h;exact h
 have bM4:=E5.below (r.set 0 (vI 1) (by show 0<10;omega)) I (by rw[E];exact hMz);have oM4:=o9.below (u.set (aA a 0) (vI 1)) I (by rw[E];exact hMz);have bR4:=E5.below (bR.other (aA a 0) (vI 1) (by show a≠w.heap.size;omega)) I (by rw[E];omega);have oR4:=o9.below (J.set (aA a 0) (vI 1)) I (by rw[E];omega);have hB4:=(K.setCell (by show w.heap.size<=a;omega) _).trans (I.mono (by rw[E];omega));have k1:=bM4 1 _ rfl;have f1:=oM4 1;have p:E5 (t.setCell (aA a 1) (vI (n29 (Y1 F)))) a ((v_ (n29 (Y1 F))).c none 0):=bM4.set 1 (vI (n29 (Y1 F))) (by show 1<10;omega);have B:E5 (t.setCell (aA a 1) (vI (n29 (Y1 F)))) w.heap.size zE:=bR4.other _ _ (by show a≠w.heap.size;omega);have D:o9 (t.setCell (aA a 1) (vI (n29 (Y1 F)))) w.heap.size:=oR4.set _ _;have A:Bw w (t.setCell (aA a 1) (vI (n29 (Y1 F)))):=hB4.setCell (by show w.heap.size<=a;omega) _;have O:a<(t.setCell (aA a 1) (vI (n29 (Y1 F)))).heap.size:=X7;have z:w.heap.size<(t.setCell (aA a 1) (vI (n29 (Y1 F)))).heap.size:=X7;have q:X6 (t.setCell (aA a 1) (vI (n29 (Y1 F)))) none (v_ (n29 (Y1 F))).ls:=.inl rfl;have v:(v_ (n29 (Y1 F))).le 1048576:=⟨I4 _,I4 _,⟨I4 _,I4 _,I4 _⟩,⟨I4 _,λ_=>⟨I4 _,I4 _⟩⟩,I4 _⟩;have Q:∀g o,(none:OA)=some (aA g o)->g≠w.heap.size:=λ_ _ h=>by cases h
 clear I E r u bR J K bM4 oM4 bR4 oR4 hB4;generalize n29 (Y1 F)=N at*
 go_wp2_with(refine Fa (by rfl) 168 (.tmp 4) rfl a rfl ((v_ N).c none 0) _ p underlying168 rfl Y0 ?_)
 refine(VN (v_ N) none 0 _ v q).mono ?_;rintro e U1⟨⟨f,rfl,hT⟩,d⟩;have S:=E5.below p d O;have j:=E5.below B d z;have C:=o9.below D d z;have l:=P5 A d;have U:=Z4 q d;clear p B D q A d;by_cases he:f.data.toList=s.data.toList
 ·have n:=U0 (Lp i hT W he);have m:f.toList=s.toList:=by rw[ByteArray.toList_eq,ByteArray.toList_eq];exact he
  have e1:(f.toList==s.toList)=true:=by simpa using m
  clear hT i he
  go_wp2_with(first|refine Nb rfl 168 (.tmp 4) rfl a rfl ((v_ N).c none 0) _ S underlying168 rfl Y0 ?_|refine J7 rfl 168 (.tmp 2) (.tmp 123) rfl w.heap.size 0 rfl ((v_ N).c none 0) rfl (g_ j _ rfl) C (u_.wC _ _ _) Y0 rfl ?_)
  exact yJ (v_ N) none 0 true n (λh=>by cases h) v (Nk _ U Q) rfl rfl rfl j l
 have n:=U0 (uw i hT he);have m:¬f.toList=s.toList:=by rw[ByteArray.toList_eq,ByteArray.toList_eq];exact he
 have e1:(f.toList==s.toList)=false:=by simpa using m
 clear hT i he
 go_wp2_with(refine J7 rfl 168 (.tmp 2) (.tmp 122) rfl w.heap.size 0 rfl zE rfl (g_ j zE rfl) C (by simp[zE,Value.oneCell']) Y0 rfl ?_)
 exact Xj n rfl rfl rfl j l
theorem ZM(s:BY)(w:World)(h1:1<=s.size)(a:s.size<=16000)(hw:O1 ((L8 10 s.data.toList).getD 0 [])=Fg):
 Calls prog 89 #[.string s] w λe w'=>Is4 s.data.toList w' e/\Bw w w':=dF s w h1 a (.inl hw)
theorem aU(s:BY)(w:World)(h1:1<=s.size)(a:s.size<=16000)(hw:O1 ((L8 10 s.data.toList).getD 0 [])=dh):
 Calls prog 89 #[.string s] w λe w'=>Is4 s.data.toList w' e/\Bw w w':=dF s w h1 a (.inr (.inl hw))
theorem QM(s:BY)(w:World)(h1:1<=s.size)(a:s.size<=16000)(hw:O1 ((L8 10 s.data.toList).getD 0 [])=Xd):
 Calls prog 89 #[.string s] w λe w'=>Is4 s.data.toList w' e/\Bw w w':=dF s w h1 a (.inr (.inr hw))
end Go.Proofs.YtbgdfcmeheaiiaaGreatDoor
namespace Go.Proofs.YtbgdfcmeheaiiaaGreatDoor.T
open Proofs.Tryz Go.RowKit
variable{w u:World}{base size n:Nat}{e t:TypeId}{v:Value}{xs:List Value}
theorem row0(w:World)(e:TypeId)(size:Nat)(a:base<=w.heap.size):(w.alloc (.cells #[] e)).ownsRow base e size (.slice (some ⟨w.heap.size,0,none⟩) 0 0) 0 []:=
 ⟨O4,.inr ⟨w.heap.size,0,#[],rfl,a,heap_alloc_new w _,J9 _,J6,O4,O4⟩⟩
theorem mV(fs:List F2)(k:Nat)(h:k<fs.length):(jv fs)[k*2]?=some (.string (fs.getD k P8).nm):=by
 induction fs generalizing k with
 | nil=>cases h
 | cons x r ih=>
  cases k with
  | zero=>simp[jv]
  | succ k=>
   have:=ih k (by simpa using h);rw[Xn];simpa[jv]using this
theorem sK(a b:List F2):jv (a++b)=jv a++jv b:=Vq
theorem YQ(l:List F2)(k:Nat):jv (l.take k)=(jv l).take (k*2):=by
 induction l generalizing k with
 | nil=>simp[jv]
 | cons x r ih=>
  cases k with
  | zero=>simp[jv]
  | succ k=>rw[Xn];have:=ih k;simp[jv]at this ⊢;exact this
theorem BP(l:List F2)(k:Nat):jv (l.drop k)=(jv l).drop (k*2):=by
 induction l generalizing k with
 | nil=>simp[jv]
 | cons x r ih=>
  cases k with
  | zero=>simp[jv]
  | succ k=>rw[Xn];have:=ih k;simp[jv]at this ⊢;exact this
theorem EL(h:w.ownsRow base e size v n xs)(i m:Nat)(d:i+m<=n)(c b:Nat)(a:OA)(hv:v=.slice a n b)(hc:m=0\/b≠i)(f:∀g,v.ownBlock=some g->u.heap[g]?=w.heap[g]?):Src u (.slice (if b=i then a else a.map (·.add (i*size))) m c) size m ((xs.drop (i*size)).take (m*size)):=by
 rcases h.2 with⟨h1,h2⟩|⟨g,o,cur,h1,hb,l,hnc,hcm,hcs,k⟩
 ·subst h2;obtain rfl:=Nat.le_zero.1 (Q8 (Nat.le_add_left m i) d);have:a=none:=by rw[h1]at hv;injection hv with h;exact h.symm
  subst this;exact .inl ⟨⟨c,O4⟩,rfl,O4⟩
 have:a=some ⟨g,0,none⟩/\b=o:=by rw[h1]at hv;injection hv with h h2 h3;exact⟨h.symm,h3.symm⟩
 obtain⟨rfl,rfl⟩:=this;by_cases h0:m=0
 ·subst h0;refine .inr ⟨if b=i then⟨g,0,none⟩ else(⟨g,0,none⟩:Addr).add (i*size),c,by split<;>rfl,O4,λj x e=>by simp at e⟩
 rw[Y7 (hc.resolve_left h0)];have hm:(i+m)*size<=n*size:=wE _ d;rw[Nat.add_mul]at hm;refine .inr ⟨(⟨g,0,none⟩:Addr).add (i*size),c,rfl,by simp;have:=h.1;omega,λj x e=>?_⟩;rw[Xu]at e;split at e;rotate_left
 ·cases e
 rw[UE,<- k,Xu]at e;split at e;rotate_left
 ·cases e
 rw[Zq,Zq,Lib.cell_of_heap ((f g (by rw[h1];rfl)).trans l)];simpa using e
theorem yZ{va:OA}{a:Nat}{gs:List F2}(h:w.ownsRow base 166 2 (.slice va gs.length a) gs.length (jv gs)){k:Nat}(c:k<gs.length):∃g,va=some ⟨g,0,none⟩/\w.cell? ⟨g,k*2,none⟩=some (.string (gs.getD k P8).nm):=by
 rcases h.2 with⟨h1,h2⟩|⟨g,cp,cur,h1,hb,d,hnc,hcm,hcs,b⟩
 ·omega
 injection h1 with h1 _ _;refine⟨g,h1,?_⟩;have e:=mV gs k c;rw[<- b,Xu,D8 O0]at e;rw[Lib.cell_of_heap d,<- e];simp
theorem a1C(ht:prog.underlying t=some (.slice e))(he:prog.elem t=e)(c:∀u,(sizeOf e).run prog u=.ok size u)(h:w.ownsRow base e size v n xs){k:Nat}(hk:k<=n):∃v',(∀u,(Instr.slice t v none (some (.int .i64 (k:Int))) none).run prog u=.ok v' u)/\∀u,(∀g,v.ownBlock=some g->u.heap[g]?=w.heap[g]?)->Src u v' size k (xs.take (k*size)):=by
 obtain⟨a,b,hv⟩:=Eb h;have hc:n<=b:=by
  rcases h.2 with⟨h1,h2⟩|⟨g,cp,cur,h1,hb,hg,hnc,_⟩
  ·omega
  rw[h1]at hv;injection hv with _ _ h3;omega
 subst hv;refine⟨vL (if b=0 then a else a.map (·.add (0*size))) k b,λu=>?_,λu d=>?_⟩
 ·rw[run_slice_h u t a n b (by rw[he];exact ht) .i64 k O0 O0,he,c];simp[sliced,Result.andThen]
 have:=EL h 0 k O0 b b a rfl O0 d;simpa using this
theorem a1X(ht:prog.underlying t=some (.slice e))(he:prog.elem t=e)(c:∀u,(sizeOf e).run prog u=.ok size u)(h:w.ownsRow base e size v n xs){k:Nat}(hk:k<=n):∃v',(∀u,(Instr.slice t v (some (.int .i64 (k:Int))) none none).run prog u=.ok v' u)/\∀u,(∀g,v.ownBlock=some g->u.heap[g]?=w.heap[g]?)->Src u v' size (n-k) (xs.drop (k*size)):=by
 obtain⟨a,b,hv⟩:=Eb h;have hc:n<=b:=by
  rcases h.2 with⟨h1,h2⟩|⟨g,cp,cur,h1,hb,hg,hnc,_⟩
  ·omega
  rw[h1]at hv;injection hv with _ _ h3;omega
 subst hv;refine⟨vL (if b=k then a else a.map (·.add (k*size))) (n-k) (b-k),λu=>?_,λu d=>?_⟩
 ·rw[run_slice_l u t a n b (by rw[he];exact ht) .i64 k O0 O0,he,c];simp[sliced,Result.andThen]
 have:=EL h k (n-k) O0 (b-k) b a rfl O0 d;rw[p_ (by simp[h.1,Nat.sub_mul])]at this;exact this
structure W9(w:World)(A:Value)(x:F2)(u:World):Prop where
 b:Bw w u
 h0:Cl u w.heap.size 46 [A]
 h1:Cl u (w.heap.size+1) 166 [.string x.nm,.string x.tx]
 h2:Cl u (w.heap.size+1+1) 46 [.slice none 0 0]
theorem W9.below{w:World}{A:Value}{x:F2}{u u':World}(h:W9 w A x u)(a:Bw u u'):W9 w A x u':=
 ⟨h.b.trans (a.mono h.b.size),h.h0.below a h.h0.lt,h.h1.below a h.h1.lt,h.h2.below a h.h2.lt⟩
def a0D(gs:List F2)(x:F2)(k:Nat):Prop:=∀j,j<k->lt (gs.getD j P8).nm x.nm=true
def Stop(gs:List F2)(x:F2)(k:Nat):Prop:=k<gs.length->lt (gs.getD k P8).nm x.nm=false
theorem RU{fs gs:List F2}{x:F2}{k:Nat}(ht:A_ fs)(hf:T_ x=true)(d:gs=fs.filter (nq x.nm))(hl:gs.length<40)(c:k<=gs.length)(a:a0D gs x k)(b:Stop gs x k):Ho fs x 0 (gs.take k++[x]++gs.drop k):=by
 have e:without fs x.nm=gs:=d.symm;refine .inr (.inr (.inr ⟨ht,hf,by rw[e];exact hl,rfl,k,?_,?_⟩))
 ·rw[e];refine⟨c,a,?_⟩;rcases P7 k gs.length with h|h
  ·exact .inr (b h)
  exact .inl O0
 rw[e];unfold ins;simp
def a1s(w:World)(fs:List F2)(x:F2)(e:Ending)(w':World):Prop:=∃v c gs,e=.returned (.tuple #[.agg #[v],.int .i64 c])/\w'.ownsRow w.heap.size 166 2 v gs.length (jv gs)/\gs.length<=40/\(∀y∈gs,y∈fs\/y=x)/\Ho fs x c gs
theorem BF(gs:List F2):∀v∈jv gs,v.oneCell'=true:=λv hv=>by
 obtain⟨x,_,h⟩:=fF.1 hv;simp at h;rcases h with rfl|rfl<;>rfl
theorem EY{w w':World}{b:Nat}{t:TypeId}{xs:List Value}{g:Nat}{n c:Nat}(h:Cl w b t xs)(d:w.grownBy w' (Value.slice (some ⟨g,0,none⟩) n c).ownBlock)(a:b≠g):Cl w' b t xs:=(d.block b h.lt (λe=>a (D_ e))).trans h
theorem a0J{w u:World}{x:F2}{fs:List F2}(g:u.cell? ⟨w.heap.size+1+1,0,none⟩=some (.slice none 0 0))(b:Bw w u)(c:Int)(hc:Ho fs x c [])(a:Array Value)(f:a[4]?=some (.pointer (some ⟨w.heap.size+1+1,0,none⟩)))(d:a[5]?=some (.int .i64 c)):bodyPost prog f154 (λe w'=>a1s w fs x e w'/\Bw w w') .ret ⟨a,[]⟩ u:=
 o7 (v:=.tuple #[.agg #[vN],vI c]) (by simp[results,results154,go_sem,g,f,d]) rfl ⟨⟨_,_,[],rfl,og _ _ _ _,O4,(λy h=>nomatch h),hc⟩,b⟩
theorem c154(a:OA)(X:Nat)(fs:List F2)(x:F2)(w:World)(hl:fs.length<=1000)(hs:∀i,(fs.getD i P8).le 4000)(hx:x.le 4000)(hat:U5 w a fs):
 Calls prog 154 #[.agg #[.slice a fs.length X],.agg #[.string x.nm,.string x.tx]] w λe w'=>a1s w fs x e w'/\Bw w w':=by
 have HAT:=Hq hat;clear hat
 go_in
 go_wp2_with fail
 obtain⟨W,hW⟩:∃W:World,W=((w.alloc (.cells #[vL a fs.length X] 46)).alloc (.cells #[vS x.nm,vS x.tx] 166)).alloc (.cells #[vN] 46):=⟨_,rfl⟩;rw[<- hW];have H:Hid (W9 w (vL a fs.length X) x W):=by
  rw[hW];exact⟨(P6.alloc O4 _).alloc X7 _,G8 (G8 (U3 w [_] 46) _) _,G8 (Hw (xs:=[_,_]) O4) _,Hw (xs:=[_]) O4⟩
 clear hW;refine(YZ a X fs W O0 (λi=>⟨Q8 (hs i).1 O0,Q8 (hs i).2 O0⟩) (X4 HAT.out H.out.b)).mono ?_;rintro e w1⟨⟨b,rfl,hbt⟩,hb1⟩;have L:=Hq (H.out.below hb1);have HTT:=Hq hbt.1;have HTN:=Hq hbt.2;clear H hbt hb1;have E:=L.out.h0.cell 0;have r:=L.out.h1.cell 0;have q:=L.out.h1.cell 1;have m:=L.out.h2.cell 0;have Q:=L.out.h2.opn 0;simp only[gz]at E r q m;cases b
 ·go_wp2;exact a0J (ng _ _ _ m) (L.out.b.setCell (by show _<=w.heap.size+1+1;omega) _) 1 (.inl ⟨λh=>absurd (HTN.out h) J6,rfl,rfl⟩) _ rfl rfl
 have HTR:=Hq (HTT.out rfl);clear HTT
 go_wp2_with fail
 refine(XU x w1 ⟨Q8 hx.1 O0,Q8 hx.2 O0⟩).mono ?_;rintro e w2⟨rfl,hb2⟩;have s:=Hq (L.out.below hb2);clear L hb2 E r q m Q;have E:=s.out.h0.cell 0;have r:=s.out.h1.cell 0;have q:=s.out.h1.cell 1;have m:=s.out.h2.cell 0;have Q:=s.out.h2.opn 0;simp only[gz]at E r q m;cases hf:T_ x
 ·go_wp2;exact a0J (ng _ _ _ m) (s.out.b.setCell (by show _<=w.heap.size+1+1;omega) _) 2 (.inr (.inl ⟨HTR.out,hf,rfl,rfl⟩)) _ rfl rfl
 go_wp2_with fail
 refine(a2o a X fs x.nm w2 hl (X4 HAT.out s.out.b)).mono ?_;rintro e D⟨⟨v,gs,rfl,hr,hg,hsub,hfi⟩,hb3⟩;have HFI:=Hq hfi;have HFO:=Hq hf;have A:=Hq (s.out.below hb3);have J:=Hq hr;have a6l:=Hq hsub;have hz2:=s.out.b.size;have h2l:=s.out.h2.lt;clear s hb3 hr hsub hfi E r q m Q hf;obtain⟨va,O,rfl⟩:=Eb J.out;have E:=A.out.h0.cell 0;have r:=A.out.h1.cell 0;have q:=A.out.h1.cell 1;have m:=A.out.h2.cell 0;have Q:=A.out.h2.opn 0;simp only[gz]at E r q m;have hz3:=A.out.h2.lt;have hz1:=A.out.h1.lt;by_cases hbig:40<=gs.length
 ·go_wp2;exact a0J ((Ei _ _ _ X7).trans (ng _ _ _ m)) ((A.out.b.setCell (by show _<=w.heap.size+1+1;omega) _).alloc X7 _) 3 (.inr (.inr (.inl ⟨HTR.out,HFO.out,(by show 40<=(fs.filter (nq x.nm)).length;rw[<- HFI.out];exact hbig),rfl,rfl⟩))) _ rfl rfl
 obtain⟨w4,hw4⟩:∃u:World,u=D.alloc (.cells #[vL va gs.length O] 46):=⟨_,rfl⟩;have hb4:Bw D w4:=by rw[hw4];exact P6
 have R:Hid (Cl w4 D.heap.size 46 [vL va gs.length O]):=by show Cl _ _ _ _;rw[hw4];exact U3 D [_] 46
 have H4:=Hq (A.out.below hb4);have HR4:=Hq (ownsRow_below J.out hb4)
 go_wp2_with fail
 rw[<- hw4];clear hw4;have hz4:=R.out.lt;clear E r q m Q A J;go_loopw[7] (λi wr=>Hid (Below w4.heap.size w4 wr)/\∃k:Nat,i=.int .i64 k/\k<=gs.length/\Hid (a0D gs x k)) (λi _=>gs.length-(RowKit.intOf i).toNat);exact⟨J4 _ _,0,rfl,I4 _,λj h=>absurd h (U7 _)⟩;obtain⟨V,k,rfl,hk,HU⟩:=hrel;have H:=Hq (H4.out.below V.out);have R:=Hq (R.out.below V.out R.out.lt);have J:=Hq (ownsRow_below HR4.out V.out);clear H4 HR4;have hz1:=H.out.h2.lt;have hz4:=R.out.lt;have r:=H.out.h1.cell 0;have q:=H.out.h1.cell 1;have m:=H.out.h2.cell 0;have Q:=H.out.h2.opn 0;have d3:=R.out.cell 0;simp only[gz]at r q m d3;have HST:Hid (∀kk:Nat,kk<gs.length->∃g,va=some ⟨g,0,none⟩/\wr.cell? ⟨g,kk*2,none⟩=some (vS (gs.getD kk P8).nm)):=λkk hkk=>yZ J.out hkk;have HOW:Hid (∀y,Bw wr y->∀g,(Value.slice va gs.length O).ownBlock=some g->y.heap[g]?=wr.heap[g]?):=λy d g e=>d.block g (J.out.lt g e).2;have p:Hid (∀y,Bw wr y->y.cell? ⟨D.heap.size,0,none⟩=some (vL va gs.length O)/\y.cell? ⟨w.heap.size+1,0,none⟩=some (vS x.nm)/\y.cell? ⟨w.heap.size+1,1,none⟩=some (vS x.tx)):=λy d=>⟨(d.cell hz4).trans d3,(d.cell (by show w.heap.size+1<_;omega)).trans r,(d.cell (by show w.heap.size+1<_;omega)).trans q⟩;have hcase:(∃g,k<gs.length/\va=some ⟨g,0,none⟩/\wr.cell? ⟨g,k*2,none⟩=some (vS (gs.getD k P8).nm))\/k=gs.length:=by
  rcases P7 k gs.length with h|h
  ·obtain⟨g,h1,h2⟩:=HST.out k h;exact .inl ⟨g,h,h1,h2⟩
  exact .inr O0
 clear HST;have mark:=trivial;rcases hcase with⟨g,hlt,rfl,hgc⟩|hlt
 case' inl=>
  have HL1:Hid (Op.bytesLess (gs.getD k P8).nm.toList x.nm.toList=true->a0D gs x (k+1)):=λh j hj=>by
   rcases P7 j k with h1|h1
   ·exact HU.out j h1
   obtain rfl:j=k:=O0;exact h
  have HL0:Hid (Op.bytesLess (gs.getD k P8).nm.toList x.nm.toList=false->Stop gs x k):=λh _=>h;generalize (gs.getD k P8).nm=nk at*
  go_wp2_with fail
  refine wp_region_held_drew (S:=λu=>u.cell? ⟨D.heap.size,0,none⟩=some (vL (some ⟨g,0,none⟩) gs.length O)/\u.cell? ⟨w.heap.size+1,0,none⟩=some (vS x.nm)/\u.cell? ⟨g,k*2,none⟩=some (vS nk)) Y0 ?_ λhH=>?_
  · ((try dsimp only);go_keep)
  iterate 16 refine sq ?_
  refine wdn ?_;clear hH hgc;go_simp;generalize (Op.bytesLess nk.toList x.nm.toList)=lb at*;cases lb;rotate_left
  ·have HU:=Hq (HL1.out rfl);clear HL1 HL0;go_wp2;go_roundw;exact⟨V.out.trans ((J4 _ _).drew.mono V.out.size),k+1,by go_num,O0,HU⟩;exact P9
  have HS:=Hq (HL0.out rfl);clear HL1 HL0
  go_wp2_with fail
  clear hlt;generalize (some (⟨g,0,none⟩:Addr))=va at*;revert mark
 case' inr=>
  have hnl:decide (k<gs.length)=false:=y9 O0;have HS:Hid (Stop gs x k):=λh=>absurd h O0;clear hlt
  go_wp2_with fail
  refine wp_region_held_drew (S:=λu=>u.cell? ⟨D.heap.size,0,none⟩=some (vL va gs.length O)) Y0 ?_ λhH=>?_
  · ((try dsimp only);go_keep)
  iterate 16 refine sq ?_
  refine wdn ?_
  go_wp2_with fail
  revert mark
 all_goals
  intro _;obtain⟨v47,hs1,SR1⟩:=a1C (t:=44) underlying44 Y0 (λu=>sizeOf166 u) J.out hk;obtain⟨v55,hs2,SR2⟩:=a1X (t:=44) underlying44 Y0 (λu=>sizeOf166 u) J.out hk;have S1:Hid (∀y,Bw wr y->Src y v47 2 k ((jv gs).take (k*2))):=λy d=>SR1 y (HOW.out y d);have S2:Hid (∀y,Bw wr y->Src y v55 2 (gs.length-k) ((jv gs).drop (k*2))):=λy d=>SR2 y (HOW.out y d);clear SR1 SR2;refine wp_region_held_drew (S:=λu=>u.cell? ⟨D.heap.size,0,none⟩=some (vL va gs.length O)/\u.cell? ⟨w.heap.size+1,0,none⟩=some (vS x.nm)/\u.cell? ⟨w.heap.size+1,1,none⟩=some (vS x.tx)) Y0 ?_ λhH=>?_
  ·exact p.out _ (J4 _ wr).drew.drew
  obtain⟨u,hu⟩:∃u:World,u=wr.drew.drew:=⟨_,rfl⟩;rw[<- hu]at hH ⊢;have Lu:Bw wr u:=by rw[hu];exact(J4 _ wr).drew.drew
  clear hu;refine tq 1 hH ?_;refine tq 2 hH ?_;refine U8 3 ?_;refine tq 4 hH ?_;refine U8 6 ?_;refine tq 9 hH ?_;refine tq 10 hH ?_;refine U8 11 ?_;refine U8 12 ?_;have a5F:=trivial;have row:Hid (∀y,Bw wr y->Bw wr (y.alloc (.cells #[] 166))/\(y.alloc (.cells #[] 166)).ownsRow wr.heap.size 166 2 (vL (some ⟨y.heap.size,0,none⟩) 0 0) 0 []):=λy d=>⟨d.alloc d.size _,row0 y 166 2 d.size⟩;refine wpAnyH_ready (rs:=[0,7]) Y0 O4 (AllReadyH.cons (o:=⟨some 43,.buildSlice 44 0 #[],44,_,_,none⟩) rfl (λK c=>?_) (AllReadyH.cons (o:=⟨some 50,.buildSlice 44 1 #[(0,.tmp 49)],44,_,_,none⟩) rfl (λK c=>?_) AllReadyH.nil));rotate_left;go_simp;obtain⟨f,C⟩:∃y:World,y=u.alloc (.cells #[vS x.nm,vS x.tx] 166):=⟨_,rfl⟩;rw[<- C];have by1:Bw u f:=by rw[C];exact P6
  have Cy1:Hid (Cl f u.heap.size 166 [vS x.nm,vS x.tx]):=by show Cl _ _ _ _;rw[C];exact U3 u _ 166
  have z:=P5 Lu by1;clear C hH;refine X8 c ?_ λhH=>?_
  ·exact p.out _ z
  clear c K;refine rq 0 λK c=>?_;go_simp;obtain⟨n,B⟩:∃y:World,y=f.alloc (.cells #[] 166):=⟨_,rfl⟩;rw[<- B];have Y:Bw f n:=by rw[B];exact P6
  have U:=Hq (row.out f z).2;rw[<- B]at U;have l:=P5 z Y;clear B hH;have N:=Hq (Cy1.out.below Y Cy1.out.lt);refine X8 c ?_ λhH=>?_
  ·exact p.out _ l
  clear c K;refine rq 5 λK c=>?_;refine Qc rfl _ _ 44 rfl wr.heap.size 166 2 underlying44 Gu J6 _ 0 [] rfl U.out _ k _ rfl (S1.out n l) (λv hv=>BF gs v (VA hv)) O0 l.size ?_;intro v48 y3 F P _;have I:=Di l P l.size (λj e=>(U.out.lt j e).1);have F:=Hq F;have N:=Hq (EY N.out P (by have:=Cy1.out.lt;omega));clear P hH;refine X8 c ?_ λhH=>?_
  ·exact p.out _ I
  clear c K;generalize u.heap.size=B5 at N ⊢;revert a5F;rotate_left;go_simp;obtain⟨f,C⟩:∃y:World,y=u.alloc (.cells #[] 166):=⟨_,rfl⟩;rw[<- C];have by1:Bw u f:=by rw[C];exact P6
  have Ey1:=Hq (row.out u Lu).2;rw[<- C]at Ey1;have z:=P5 Lu by1;clear C hH;refine X8 c ?_ λhH=>?_
  ·exact p.out _ z
  clear c K;refine wpAnyH_ready (rs:=[5,7]) Y0 O4 (AllReadyH.cons (o:=⟨some 48,.call ⟨.builtin .append,#[.tmp 43,.tmp 47],#[44,44]⟩,44,_,_,none⟩) rfl (λK c=>?_) (AllReadyH.cons (o:=⟨some 50,.buildSlice 44 1 #[(0,.tmp 49)],44,_,_,none⟩) rfl (λK c=>?_) AllReadyH.nil));refine Qc rfl _ _ 44 rfl wr.heap.size 166 2 underlying44 Gu J6 _ 0 [] rfl Ey1.out _ k _ rfl (S1.out f z) (λv hv=>BF gs v (VA hv)) O0 z.size ?_;intro v48 n Ry2 gy2 _;have l:=Di z gy2 z.size (λj e=>(Ey1.out.lt j e).1);have Ry2:=Hq Ry2;clear gy2 hH;refine X8 c ?_ λhH=>?_
  ·exact p.out _ l
  clear c K;refine rq 7 λK c=>?_;go_simp;obtain⟨y3,hy3⟩:∃y:World,y=n.alloc (.cells #[vS x.nm,vS x.tx] 166):=⟨_,rfl⟩;rw[<- hy3];have by3:Bw n y3:=by rw[hy3];exact P6
  have N:Hid (Cl y3 n.heap.size 166 [vS x.nm,vS x.tx]):=by show Cl _ _ _ _;rw[hy3];exact U3 n _ 166
  have I:=P5 l by3;clear hy3 hH;have F:=Hq (ownsRow_below Ry2.out by3);refine X8 c ?_ λhH=>?_
  ·exact p.out _ I
  clear c K;generalize n.heap.size=B5 at N ⊢;revert a5F;rotate_left;go_simp;obtain⟨n,B⟩:∃y:World,y=f.alloc (.cells #[vS x.nm,vS x.tx] 166):=⟨_,rfl⟩;rw[<- B];have Y:Bw f n:=by rw[B];exact P6
  have Cy2:Hid (Cl n f.heap.size 166 [vS x.nm,vS x.tx]):=by show Cl _ _ _ _;rw[B];exact U3 f _ 166
  have l:=P5 z Y;clear B hH;have U:=Hq (ownsRow_below Ey1.out Y);refine X8 c ?_ λhH=>?_
  ·exact p.out _ l
  clear c K;refine rq 5 λK c=>?_;refine Qc rfl _ _ 44 rfl wr.heap.size 166 2 underlying44 Gu J6 _ 0 [] rfl U.out _ k _ rfl (S1.out n l) (λv hv=>BF gs v (VA hv)) O0 l.size ?_;intro v48 y3 F P _;have I:=Di l P l.size (λj e=>(U.out.lt j e).1);have F:=Hq F;have N:=Hq (EY Cy2.out P (by have:u.heap.size<f.heap.size:=(Ey1.out.lt _ rfl).2;omega));clear P hH;refine X8 c ?_ λhH=>?_
  ·exact p.out _ I
  clear c K;generalize f.heap.size=B5 at N ⊢;revert a5F
  all_goals
   intro _;refine rq 8 λK c=>?_;refine Qc rfl _ _ 44 rfl wr.heap.size 166 2 underlying44 Gu J6 _ (0+k) _ rfl F.out _ 1 [vS x.nm,vS x.tx] rfl (.inr ⟨⟨B5,0,none⟩,1,rfl,rfl,jm N.out⟩) (by simp[Value.oneCell']) O0 I.size ?_;intro v51 y4 Ry4 gy4 _;have Ly4:=Di I gy4 I.size (λj e=>(F.out.lt j e).1);have Ry4:=Hq Ry4;clear gy4 hH;refine X8 c ?_ λhH=>?_
   ·exact p.out _ Ly4
   clear c K;refine rq 13 λK c=>?_;refine Qc rfl _ _ 44 rfl wr.heap.size 166 2 underlying44 Gu J6 _ (0+k+1) _ rfl Ry4.out _ (gs.length-k) _ rfl (S2.out y4 Ly4) (λv hv=>BF gs v (qI hv)) O0 Ly4.size ?_;intro v56 y5 Z gy5 _;rw[show 0+k+1+(gs.length-k)=gs.length+1 from by omega,Qb]at Z;have Ly5:=Di Ly4 gy5 Ly4.size (λj e=>(Ry4.out.lt j e).1);obtain⟨va5,vc5,rfl⟩:=Eb Z;have Z:=Hq Z;clear gy5 hH;refine X8 c ?_ λhH=>?_
   ·exact p.out _ Ly5
   clear c K;refine sq ?_;refine rq 15 λK c=>?_;have C5:=H.out.h2.below Ly5 hz1;have e2:=C5.cell 0;have e3:=C5.opn 0;dsimp only[List.getElem?_cons_zero]at e2;obtain⟨s1,s2,s3⟩:=p.out y5 Ly5;go_simp;clear hH;refine X8 c ?_ λhH=>?_
   ·exact⟨(Qa _ _ _ _ (by simp<;>omega)).trans s1,(Qa _ _ _ _ O4).trans s2,(Qa _ _ _ _ O4).trans s3⟩
   clear c K;refine sq ?_;refine wdn ?_;clear hH;go_wp2;have er:=ng y5 ⟨w.heap.size+1+1,0,none⟩ (vL va5 (gs.length+1) vc5) e2;refine o7 (v:=.tuple #[.agg #[vL va5 (gs.length+1) vc5],vO]) (by simp[results,results154,go_sem,er]) rfl ⟨⟨_,0,gs.take k++[x]++gs.drop k,rfl,?_,X7,(λy d=>?_),RU HTR.out HFO.out HFI.out O0 hk HU.out HS.out⟩,?_⟩
   ·have h:=ig (NF (b:=w.heap.size+1+1) (j:=0) (x:=vL va5 (gs.length+1) vc5) Z.out O0) (B':=w.heap.size) O0;have e1:(gs.take k++[x]++gs.drop k).length=gs.length+1:=X7;rw[e1,sK,sK,YQ,BP];exact h
   ·simp only[Cf,jo]at d;rcases d with(h|h)|h
    ·exact .inl (a6l.out y (VA h))
    ·exact .inr h
    exact .inl (a6l.out y (qI h))
   exact(H.out.b.trans (Ly5.mono H.out.b.size)).setCell (by show w.heap.size<=w.heap.size+1+1;omega) _
