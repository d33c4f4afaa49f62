import Derived.Test.YtchjpjmcnhjbcaaGreatDooreEO
import Derived.Test.YtchjpjmcnhjbcaaGreatDoorpA
set_option linter.unusedVariables false
set_option maxHeartbeats 8000000
set_option maxRecDepth 100000
namespace Go.Proofs.YtchjpjmcnhjbcaaGreatDoor
open Proofs.Tryz Go.RowKit
theorem wS (s:BY) (w:World) (h1:1<=s.size) (h16:s.size<=16000) (hw:O1 ((G8 10 s.data.toList).getD 0 [])≠Wj/\O1 ((G8 10 s.data.toList).getD 0 [])≠Bd/\O1 ((G8 10 s.data.toList).getD 0 [])≠Jh/\O1 ((G8 10 s.data.toList).getD 0 [])≠Zg/\O1 ((G8 10 s.data.toList).getD 0 [])≠Jg):
 Calls prog 95 #[.string s] w fun e w'=>Is4 s.data.toList w' e/\Bw w w':=by
 have R:Bw w ((w.alloc (.cells zE.toArray 137)).alloc (.cells zE.toArray 137)):=P6.alloc X4 _;have J:s.data.toList.length=s.size:=X4;have Y:Hid (s.data.toList≠[]):=fun h=>by rw [h] at J;simp at J;omega
 have hse:(s.toList==[])=false:=by
  rw [ByteArray.toList_eq];exact p_.2 Y.out
 have a4W:¬ s.toList=[]:=by simpa using hse
 have a4X:decide (16000<(s.size:Int))=false:=U7;go_enter func95,ntmps95
 go_wp2_with fail
 refine (WO s 10 _ O0).mono ?_;rintro e u ⟨⟨g2,cp,rfl,N,j⟩,O⟩;have I:((w.alloc (.cells zE.toArray 137)).alloc (.cells zE.toArray 137)).heap.size=w.heap.size+2:=X4;have b:Below (w.heap.size+2) ((w.alloc (.cells zE.toArray 137)).alloc (.cells zE.toArray 137)) u:=O.mono X4;have a4u:w.heap.size+2<=g2:=by have h:=N;simp at h;omega
 have hz1:w.heap.size+2<=u.heap.size:=by have h:=b.size;rw [I] at h;exact h
 have S:=((Z7 w zE 137).below P6 X4).below b O0;have E:=((Qa w zE.toArray 137).below P6 X4).below b O0;have U:=D5.below (by have h:=Z7 (w.alloc (.cells zE.toArray 137)) zE 137;simp at h;exact h) b O0;have H:=X6.below (by have h:=Qa (w.alloc (.cells zE.toArray 137)) zE.toArray 137;simp at h;exact h) b O0;have l:=R.trans (b.mono O0);have q:=gm 10 s.data.toList;have x:=ah 10 s.data.toList;clear O N I b;obtain ⟨m,y⟩:∃ m,m=G8 10 s.data.toList:=⟨_,rfl⟩;rw [<- y] at j q x hw ⊢;have n:=U0 y.symm;have HCS:Hid (∀ k,(m.getD k []).length<=16000):=fun k=>G7 (x k) O0;obtain ⟨F,hF⟩:∃ F,F=m.getD 0 []:=⟨_,rfl⟩;have p:=U0 hF.symm;have hFl:F.length<=16000:=by rw [hF];exact HCS.out 0
 rw [<- hF] at hw;have a4v:=q.1;have a4P:m.length<=16001:=by have:=q.2;omega
 have c0:u.cell? (aA g2 0)=some (vS (J3 F)):=by rw [hF];exact j.2 0 a4v
 have a4w:=j.1;clear hF y x q
 go_wp2_with fail
 refine (Es F _ O0 1 O0 O0).mono ?_;rintro e d ⟨⟨g3,cp3,rfl,hg3,v⟩,a⟩;have hz3:=a.size;have bR:=D5.below S a O0;have Z:=X6.below E a O0;have bM:=D5.below U a O0;have oM:=X6.below H a O0;have hL3:=U0 (lg j a);have hB3:=X5 l a;have d0:d.cell? (aA g3 0)=some (vS (J3 (O1 F))):=v.2 0 (by simp [A_]);have a4F:=v.1;have hrs:=D8 F;have K:J3 (Q9 F 1)=J3 (Y1 F):=rfl;rw [K];clear K a S E U H j l v c0 R;have hMz:w.heap.size+1<d.heap.size:=O0;have hRB:w.heap.size<w.heap.size+1:=O0;have a4G:w.heap.size+1<g3:=O0;have a4Q:w.heap.size+1<g2:=O0;have a4x:g2<d.heap.size:=O0;clear hg3 a4w a4u hz1 hz3;generalize w.heap.size+1=D at*;have r:Hid (wV s.data.toList Di):=TQ _ (by rw [n.out,p.out];exact hw.1) (by rw [n.out,p.out];exact hw.2.1) (by rw [n.out,p.out];exact hw.2.2.1) (by rw [n.out,p.out];exact hw.2.2.2.1) (by rw [n.out,p.out];exact hw.2.2.2.2);have n4:((J3 (O1 F)).toList==[114,97,110])=false:=by
  rw [ByteArray.toList_eq,L9];exact p_.2 hw.1
 have m4:¬ (J3 (O1 F)).toList=[114,97,110]:=by simpa using n4
 have n1:((J3 (O1 F)).toList==[101,112,111,99,104])=false:=by
  rw [ByteArray.toList_eq,L9];exact p_.2 hw.2.1
 have m1:¬ (J3 (O1 F)).toList=[101,112,111,99,104]:=by simpa using n1
 have n2:((J3 (O1 F)).toList==[102,105,108,101])=false:=by
  rw [ByteArray.toList_eq,L9];exact p_.2 hw.2.2.1
 have m2:¬ (J3 (O1 F)).toList=[102,105,108,101]:=by simpa using n2
 have n3:((J3 (O1 F)).toList==[100,114,111,112])=false:=by
  rw [ByteArray.toList_eq,L9];exact p_.2 hw.2.2.2.1
 have m3:¬ (J3 (O1 F)).toList=[100,114,111,112]:=by simpa using n3
 have n5:((J3 (O1 F)).toList==[99,108,101,97,114])=false:=by
  rw [ByteArray.toList_eq,L9];exact p_.2 hw.2.2.2.2
 have m5:¬ (J3 (O1 F)).toList=[99,108,101,97,114]:=by simpa using n5
 clear hw;have B:D5 d D (Di.c none 0):=bM;have V:=bR;have X:=Z;have Q:=hB3;have hMU:=hMz;have P:w.heap.size<d.heap.size:=O0;have C:o9 d none Di.ls:=.inl rfl;have L:=SK;have a4H:∀ g o,(none:OA)=some (aA g o)->g≠w.heap.size:=fun _ _ h=>by cases h
 generalize J3 (O1 F)=wd at*
 go_wp2_with (refine Z_ (by rfl) 137 (.tmp 4) rfl D rfl ((Di).c none 0) _ B underlying137 rfl Y2 ?_)
 refine (nN (Di) none 0 _ L C).mono ?_;rintro e U1 ⟨⟨i,rfl,hT⟩,f⟩;have HM1:=D5.below B f hMU;have t:=D5.below V f P;have W:=X6.below X f P;have l:=X5 Q f;have a4I:=l7 C f;clear B V X C Q f;by_cases he:i.data.toList=s.data.toList
 · have A:=U0 (Qp r.out hT Y.out he);have z:i.toList=s.toList:=by rw [ByteArray.toList_eq,ByteArray.toList_eq];exact he
   have e1:(i.toList==s.toList)=true:=by simpa using z
   clear hT r he
   go_wp2_with (first | refine Xa rfl 137 (.tmp 4) rfl D rfl ((Di).c none 0) _ HM1 underlying137 rfl Y2 ?_ | refine N7 rfl 137 (.tmp 2) (.tmp 123) rfl w.heap.size 0 rfl ((Di).c none 0) rfl (V9 t _ rfl) W (g_.bC _ _ _) Y2 rfl ?_)
   exact RI (Di) none 0 true A.out (fun h=>by cases h) L (Gl _ a4I a4H) rfl rfl rfl t l
 · have A:=U0 (Yt r.out hT he);have z:¬ i.toList=s.toList:=by rw [ByteArray.toList_eq,ByteArray.toList_eq];exact he
   have e1:(i.toList==s.toList)=false:=by simpa using z
   clear hT r he
   go_wp2_with (refine N7 rfl 137 (.tmp 2) (.tmp 122) rfl w.heap.size 0 rfl zE rfl (V9 t zE rfl) W (by simp [zE,Value.oneCell']) Y2 rfl ?_)
   exact Oj A.out rfl rfl rfl t l
end Go.Proofs.YtchjpjmcnhjbcaaGreatDoor
namespace Go.Proofs.YtchjpjmcnhjbcaaGreatDoor.T
open Proofs.Tryz Go.RowKit
variable {u u' w:World} {B base n size:Nat} {e:TypeId} {A v:Value} {xs:List Value} {gs:List F2}
theorem XE {b j:Nat} {x:Value} (h:w.ownsRow base e size v n xs) (hb:b<base):(w.setCell ⟨b,j,none⟩ x).ownsRow base e size v n xs:=o7 h (fun q a=>(Ve w b j x).block q (fun e=>by have:=J6 h a;omega))
def lu (fs:List F2):List Value:=fs.flatMap fun x=>[.string x.nm,.string x.tx]
theorem Vp {p:Prop} (h:p):Hid p:=h
theorem oQ (fs:List F2) (x:F2):lu (fs++[x])=lu fs++[.string x.nm,.string x.tx]:=by simp [lu]
theorem Yu:Inf prog 133 2:=Ll Y2
theorem Nv {t:TypeId} (h:B=w.heap.size):Cl (w.alloc (.cells xs.toArray t)) B t xs:=h▸Y4 w xs t
theorem I_ (h:w.ownsRow base e size v n xs):∃ a c,v=.slice a n c:=by
 rcases h.2 with ⟨rfl,rfl⟩ | ⟨g,cap,cur,rfl,_⟩
 · exact ⟨_,_,rfl⟩
 exact ⟨_,_,rfl⟩
theorem Bg (h:Below B w u) (g:u.grownBy u' v.ownBlock) (hz:B<=u.heap.size) (hv:∀ k,v.ownBlock=some k->B<=k):Below B w u':=
 ⟨g.os.trans h.os,g.tape.trans h.tape,g.output.trans h.output,G7 h.size g.size,fun k a=>(g.block k O0 (fun e=>by have:=hv k e.symm;omega)).trans (h.block k a)⟩
structure W6 (w:World) (A v:Value) (gs:List F2) (u:World):Prop where
 b:Bw w u
 h0:Cl u w.heap.size 40 [A]
 h1:Cl u (w.heap.size+1) 40 [.slice none 0 0]
 h2:Cl u (w.heap.size+1+1) 40 [v]
 ho:u.ownsRow (w.heap.size+3) 133 2 v gs.length (lu gs)
theorem W6.below (h:W6 w A v gs u) (a:Bw u u'):W6 w A v gs u':=
 ⟨h.b.trans (a.mono h.b.size),h.h0.below a h.h0.lt,h.h1.below a h.h1.lt,h.h2.below a h.h2.lt,ownsRow_below h.ho a⟩
theorem W6.app {v':Value} {x:F2} (h:W6 w A v gs u) (hr:u'.ownsRow (w.heap.size+3) 133 2 v' (gs.length+1) (lu gs++[.string x.nm,.string x.tx])) (d:u.grownBy u' v.ownBlock):Below (w.heap.size+3) u u'/\W6 w A v' (gs++[x]) (u'.setCell ⟨w.heap.size+1+1,0,none⟩ v'):=by
 have k:∀ j,v.ownBlock=some j->w.heap.size+3<=j:=fun j e=>(h.ho.lt j e).1;have hB:=Bg (Z4 (w.heap.size+3) u) d h.h2.lt k;have c2:=h.h2.below hB O0;have c:=(Z4 (w.heap.size+1+1) u').setCell (p:=(aA (w.heap.size+1+1) 0)) H8 v';have a:Below (w.heap.size+1+1) u _:=(hB.mono O0).trans c;refine ⟨hB,h.b.trans (a.mono O0),h.h0.below a O0,h.h1.below a O0,c2.set 0 v',?_⟩;rw [D9,oQ];exact XE hr O0
def nq (nm:BY) (y:F2):Bool:=!(y.nm.toList==nm.toList)
theorem a1F (a:OA) (n:Nat) (fs:List F2) (nm:BY) (w:World) (hl:fs.length<=1000) (t:G6 w a fs):
 Calls prog 192 #[.agg #[.slice a fs.length n],.string nm] w fun e w'=>(∃ v gs,e=.returned (.agg #[v])/\w'.ownsRow w.heap.size 133 2 v gs.length (lu gs)/\gs.length<=fs.length/\(∀ x∈gs,x∈fs)/\gs=fs.filter (nq nm))/\Bw w w':=by
 obtain ⟨b,off,hc⟩:=Z9 t;have C:=Vp hc;clear hc t;go_enter func192,ntmps192
 go_wp2_with fail
 go_loopw [6] (fun i wr=>∃ (k:Nat) (v:Value) (gs:List F2),i=.int .i64 k/\k<=fs.length/\gs.length<=k/\Hid (gs=(fs.take k).filter (nq nm))/\Hid (W6 w (.slice a fs.length n) v gs wr)) (fun i _=>fs.length - (RowKit.intOf i).toNat)
 case atStart=>exact ⟨0,_,[],rfl,J4 _,v_ _,rfl,⟨(P6.alloc X4 _).alloc U7 _,G9 (G9 (Y4 w [_] 40) _) _,G9 (Nv (xs:=[_]) X4) _,Nv (xs:=[_]) X4,mg _ _ _ _⟩⟩
 obtain ⟨k,v,gs,rfl,hk,hg,h,H⟩:=hrel;obtain ⟨va,j,rfl⟩:=I_ H.out.ho;have I:=H.out.h0.cell 0;have A:=H.out.h1.cell 0;have f1:=H.out.h1.opn 0;have F:=H.out.h2.cell 0;dsimp only [List.getElem?_cons_zero] at I A F;by_cases f:k<fs.length;rotate_left
 · go_wp2;have E:=jg wr (aA (w.heap.size+1) 0) (vL va gs.length j) A;refine Y6 (v:=.agg #[vL va gs.length j]) (by simp [results,results192,go_sem,E]) rfl ⟨⟨_,gs,rfl,Yf (XE H.out.ho O0) O0,O0,(fun x hx=>by rw [h.out] at hx;exact Rx (Fv.1 hx).1),by rw [h.out,l_ O0]⟩,H.out.b.setCell X4 _⟩
 obtain ⟨ha,s,l⟩:=Cc C.out f;subst ha;have g0:=(H.out.b.cell (p:=(aA b (off+k*2))) s).trans (l k f).1;have g1:=(H.out.b.cell (p:=(aA b (off+k*2+1))) s).trans (l k f).2;have B:Hid (fs.take (k+1)=fs.take k++[fs.getD k I8]):=by show _=_;rw [Ey f];simp [List.getD,f]
 generalize fs.getD k I8=x at*;clear l C;cases hne:(x.nm.toList==nm.toList);rotate_left
 · have r:Hid (gs=(fs.take (k+1)).filter (nq nm)):=by show _=_;rw [B.out,Zu,<- h.out];simp [nq,hne]
   go_wp2;go_roundw
   case rel=>exact ⟨k+1,_,gs,by go_num,O0,O0,r,H⟩
   case measure=>simp [RowKit.intOf];omega
 go_wp2_with fail
 refine Zn (S:=fun u=>u.cell? (aA (w.heap.size+1+1) 0)=some (vL va gs.length j)/\u.cell? (aW w 0)=some (vL (some (aA b off)) fs.length n)/\u.cell? (aA b (off+k*2))=some (vS x.nm)/\u.cell? (aA b (off+k*2+1))=some (vS x.tx)) 10 Y2 ?_ fun hH=>?_
 · ((try dsimp only);go_keep)
 refine lq 0 hH ?_;refine lq 1 hH ?_;refine lq 2 hH ?_;refine lq 3 hH ?_;refine lq 4 hH ?_;refine lq 5 hH ?_
 try simp only [qq]
 refine lq 6 hH ?_
 try simp only [qq]
 refine lr (i:=7) (o:=⟨some 30,.buildSlice 38 1 #[(0,.tmp 29)],38,_,_,none⟩) rfl o6 Y2 fun K c=>?_;go_simp;obtain ⟨y,g⟩:∃ y:World,y=(wr.alloc (.cells #[vS x.nm,vS x.tx] 133)).drew:=⟨_,rfl⟩;rw [<- g];have m:Bw wr y:=by rw [g];exact P6.drew
 have r:Hid (Cl y wr.heap.size 133 [vS x.nm,vS x.tx]):=by show Cl _ _ _ _;rw [g];exact Y4 wr _ 133
 have d:=Vp (H.out.below m);have hbz:=H.out.b.size;have e0:=(m.cell (p:=(aA b (off+k*2))) (by show b<_;omega)).trans g0;have e1:=(m.cell (p:=(aA b (off+k*2+1))) (by show b<_;omega)).trans g1;clear g hH;refine E8 c ?_ fun hH=>?_
 · exact ⟨d.out.h2.cell 0,d.out.h0.cell 0,e0,e1⟩
 clear c K;refine lr (i:=8) (o:=⟨some 31,.call ⟨.builtin .append,#[.tmp 24,.tmp 30],#[38,38]⟩,38,_,_,none⟩) rfl o6 Y2 fun K c=>?_;refine Aa rfl _ _ 38 rfl (w.heap.size+3) 133 2 underlying38 Yu o6 _ gs.length _ rfl d.out.ho _ 1 [vS x.nm,vS x.tx] rfl (.inr ⟨(aW wr 0),1,rfl,rfl,um r.out⟩) (by simp [Value.oneCell']) O0 d.out.h2.lt ?_;intro v' y2 q g2 _;obtain ⟨va',vc',rfl⟩:=I_ q;obtain ⟨hB,z⟩:=d.out.app (x:=x) q g2;have c2:=d.out.h2.below hB O0;have J:=Vp z;clear z q g2 hH;refine E8 c ?_ fun hH=>?_
 · exact ⟨c2.cell 0,(d.out.h0.below hB O0).cell 0,(hB.cell (by show b<_;omega)).trans e0,(hB.cell (by show b<_;omega)).trans e1⟩
 clear c K;refine lq 9 hH ?_
 try simp only [qq]
 refine lz (o:=⟨none,.store 38 (.tmp 32) (.tmp 31),0,_,_,none⟩) rfl Y2 fun K c=>?_;have D:=c2.cell 0;have zf:=c2.opn 0;dsimp only [List.getElem?_cons_zero] at D;go_simp;clear hH;refine c.out _ _ ?_;clear c K
 try simp only [qq]
 refine qo Y2 ?_ _;go_wp2;go_roundw
 case rel=>exact ⟨k+1,_,gs++[x],by go_num,O0,U7,by show _=_;rw [B.out,Zu,<- h.out];simp [nq,hne],J⟩
 case measure=>simp [RowKit.intOf];omega
variable {w u:World} {base size n:Nat} {e t:TypeId} {v:Value} {xs:List Value}
theorem row0 (w:World) (e:TypeId) (size:Nat) (a:base<=w.heap.size):(w.alloc (.cells #[] e)).ownsRow base e size (.slice (some ⟨w.heap.size,0,none⟩) 0 0) 0 []:=
 ⟨X4,.inr ⟨w.heap.size,0,#[],rfl,a,heap_alloc_new w _,v_ _,o6,X4,X4⟩⟩
theorem oV (fs:List F2) (k:Nat) (h:k<fs.length):(lu fs)[k*2]?=some (.string (fs.getD k I8).nm):=by
 induction fs generalizing k with
 | nil=>cases h
 | cons x r ih=>
  cases k with
  | zero=>simp [lu]
  | succ k=>
   have:=ih k (by simpa using h);rw [Vj];simpa [lu] using this
theorem wK (a b:List F2):lu (a++b)=lu a++lu b:=Ns
theorem bQ (l:List F2) (k:Nat):lu (l.take k)=(lu l).take (k*2):=by
 induction l generalizing k with
 | nil=>simp [lu]
 | cons x r ih=>
  cases k with
  | zero=>simp [lu]
  | succ k=>rw [Vj];have:=ih k;simp [lu] at this ⊢;exact this
theorem CO (l:List F2) (k:Nat):lu (l.drop k)=(lu l).drop (k*2):=by
 induction l generalizing k with
 | nil=>simp [lu]
 | cons x r ih=>
  cases k with
  | zero=>simp [lu]
  | succ k=>rw [Vj];have:=ih k;simp [lu] at this ⊢;exact this
theorem kL (h:w.ownsRow base e size v n xs) (i m:Nat) (d:i+m<=n) (c b:Nat) (a:OA) (hv:v=.slice a n b) (hc:m=0\/b≠i) (f:∀ g,v.ownBlock=some g->u.heap[g]?=w.heap[g]?):Src u (.slice (if b=i then a else a.map (·.add (i*size))) m c) size m ((xs.drop (i*size)).take (m*size)):=by
 rcases h.2 with ⟨h1,h2⟩ | ⟨g,o,cur,h1,hb,l,hnc,hcm,hcs,k⟩
 · subst h2;obtain rfl:=Nat.le_zero.1 (G7 (Nat.le_add_left m i) d);have:a=none:=by rw [h1] at hv;injection hv with h;exact h.symm
   subst this;exact .inl ⟨⟨c,X4⟩,rfl,X4⟩
 have:a=some ⟨g,0,none⟩/\b=o:=by rw [h1] at hv;injection hv with h h2 h3;exact ⟨h.symm,h3.symm⟩
 obtain ⟨rfl,rfl⟩:=this;by_cases h0:m=0
 · subst h0;refine .inr ⟨if b=i then ⟨g,0,none⟩ else (⟨g,0,none⟩:Addr).add (i*size),c,by split <;> rfl,X4,fun j x e=>by simp at e⟩
 rw [I7 (hc.resolve_left h0)];have hm:(i+m)*size<=n*size:=UI _ d;rw [Nat.add_mul] at hm;refine .inr ⟨(⟨g,0,none⟩:Addr).add (i*size),c,rfl,by simp;have:=h.1;omega,fun j x e=>?_⟩;rw [Zx] at e;split at e;rotate_left
 · cases e
 rw [Yy,<- k,Zx] at e;split at e;rotate_left
 · cases e
 rw [Jq,Jq,Lib.cell_of_heap ((f g (by rw [h1];rfl)).trans l)];simpa using e
theorem a0d {va:OA} {a:Nat} {gs:List F2} (h:w.ownsRow base 133 2 (.slice va gs.length a) gs.length (lu gs)) {k:Nat} (c:k<gs.length):∃ g,va=some ⟨g,0,none⟩/\w.cell? ⟨g,k*2,none⟩=some (.string (gs.getD k I8).nm):=by
 rcases h.2 with ⟨h1,h2⟩ | ⟨g,cp,cur,h1,hb,d,hnc,hcm,hcs,b⟩
 · omega
 injection h1 with h1 _ _;refine ⟨g,h1,?_⟩;have e:=oV gs k c;rw [<- b,Zx,X7 O0] at e;rw [Lib.cell_of_heap d,<- e];simp
theorem a1k (ht:prog.underlying t=some (.slice e)) (he:prog.elem t=e) (c:∀ u,(sizeOf e).run prog u=.ok size u) (h:w.ownsRow base e size v n xs) {k:Nat} (hk:k<=n):∃ v',(∀ u,(Instr.slice t v none (some (.int .i64 (k:Int))) none).run prog u=.ok v' u)/\∀ u,(∀ g,v.ownBlock=some g->u.heap[g]?=w.heap[g]?)->Src u v' size k (xs.take (k*size)):=by
 obtain ⟨a,b,hv⟩:=I_ h;have hc:n<=b:=by
  rcases h.2 with ⟨h1,h2⟩ | ⟨g,cp,cur,h1,hb,hg,hnc,_⟩
  · omega
  rw [h1] at hv;injection hv with _ _ h3;omega
 subst hv;refine ⟨vL (if b=0 then a else a.map (·.add (0*size))) k b,fun u=>?_,fun u d=>?_⟩
 · rw [run_slice_h u t a n b (by rw [he];exact ht) .i64 k O0 O0,he,c];simp [sliced,Result.andThen]
 have:=kL h 0 k O0 b b a rfl O0 d;simpa using this
theorem a1e (ht:prog.underlying t=some (.slice e)) (he:prog.elem t=e) (c:∀ u,(sizeOf e).run prog u=.ok size u) (h:w.ownsRow base e size v n xs) {k:Nat} (hk:k<=n):∃ v',(∀ u,(Instr.slice t v (some (.int .i64 (k:Int))) none none).run prog u=.ok v' u)/\∀ u,(∀ g,v.ownBlock=some g->u.heap[g]?=w.heap[g]?)->Src u v' size (n - k) (xs.drop (k*size)):=by
 obtain ⟨a,b,hv⟩:=I_ h;have hc:n<=b:=by
  rcases h.2 with ⟨h1,h2⟩ | ⟨g,cp,cur,h1,hb,hg,hnc,_⟩
  · omega
  rw [h1] at hv;injection hv with _ _ h3;omega
 subst hv;refine ⟨vL (if b=k then a else a.map (·.add (k*size))) (n - k) (b - k),fun u=>?_,fun u d=>?_⟩
 · rw [run_slice_l u t a n b (by rw [he];exact ht) .i64 k O0 O0,he,c];simp [sliced,Result.andThen]
 have:=kL h k (n - k) O0 (b - k) b a rfl O0 d;rw [l_ (by simp [h.1,Nat.sub_mul])] at this;exact this
structure W9 (w:World) (A:Value) (x:F2) (u:World):Prop where
 b:Bw w u
 h0:Cl u w.heap.size 40 [A]
 h1:Cl u (w.heap.size+1) 133 [.string x.nm,.string x.tx]
 h2:Cl u (w.heap.size+1+1) 40 [.slice none 0 0]
theorem W9.below {w:World} {A:Value} {x:F2} {u u':World} (h:W9 w A x u) (a:Bw u u'):W9 w A x u':=
 ⟨h.b.trans (a.mono h.b.size),h.h0.below a h.h0.lt,h.h1.below a h.h1.lt,h.h2.below a h.h2.lt⟩
def NZ (gs:List F2) (x:F2) (k:Nat):Prop:=∀ j,j<k->lt (gs.getD j I8).nm x.nm=true
def Stop (gs:List F2) (x:F2) (k:Nat):Prop:=k<gs.length->lt (gs.getD k I8).nm x.nm=false
theorem DV {fs gs:List F2} {x:F2} {k:Nat} (ht:G_ fs) (hf:Q_ x=true) (d:gs=fs.filter (nq x.nm)) (hl:gs.length<40) (c:k<=gs.length) (a:NZ gs x k) (b:Stop gs x k):Ym fs x 0 (gs.take k++[x]++gs.drop k):=by
 have e:without fs x.nm=gs:=d.symm;refine .inr (.inr (.inr ⟨ht,hf,by rw [e];exact hl,rfl,k,?_,?_⟩))
 · rw [e];refine ⟨c,a,?_⟩;rcases Q7 k gs.length with h | h
   · exact .inr (b h)
   exact .inl O0
 rw [e];unfold ins;simp
def a0y (w:World) (fs:List F2) (x:F2) (e:Ending) (w':World):Prop:=∃ v c gs,e=.returned (.tuple #[.agg #[v],.int .i64 c])/\w'.ownsRow w.heap.size 133 2 v gs.length (lu gs)/\gs.length<=40/\(∀ y∈gs,y∈fs\/y=x)/\Ym fs x c gs
theorem iF (gs:List F2):∀ v∈lu gs,v.oneCell'=true:=fun v hv=>by
 obtain ⟨x,_,h⟩:=zD.1 hv;simp at h;rcases h with rfl | rfl <;> rfl
theorem pX {w w':World} {b:Nat} {t:TypeId} {xs:List Value} {g:Nat} {n c:Nat} (h:Cl w b t xs) (d:w.grownBy w' (Value.slice (some ⟨g,0,none⟩) n c).ownBlock) (a:b≠g):Cl w' b t xs:=(d.block b h.lt (fun e=>a (w_ e))).trans h
theorem pY {w u:World} {x:F2} {fs:List F2} (g:u.cell? ⟨w.heap.size+1+1,0,none⟩=some (.slice none 0 0)) (b:Bw w u) (c:Int) (hc:Ym fs x c []) (a:Array Value) (f:a[4]?=some (.pointer (some ⟨w.heap.size+1+1,0,none⟩))) (d:a[5]?=some (.int .i64 c)):bodyPost prog f143 (fun e w'=>a0y w fs x e w'/\Bw w w') .ret ⟨a,[]⟩ u:=
 Y6 (v:=.tuple #[.agg #[vN],vI c]) (by simp [results,results143,go_sem,g,f,d]) rfl ⟨⟨_,_,[],rfl,mg _ _ _ _,X4,(fun y h=>nomatch h),hc⟩,b⟩
theorem c143 (a:OA) (X:Nat) (fs:List F2) (x:F2) (w:World) (hl:fs.length<=1000) (hs:∀ i,(fs.getD i I8).le 4000) (hx:x.le 4000) (hat:G6 w a fs):
 Calls prog 143 #[.agg #[.slice a fs.length X],.agg #[.string x.nm,.string x.tx]] w fun e w'=>a0y w fs x e w'/\Bw w w':=by
 have HAT:=Vp hat;clear hat;go_enter func143,ntmps143
 go_wp2_with fail
 obtain ⟨W,hW⟩:∃ W:World,W=((w.alloc (.cells #[vL a fs.length X] 40)).alloc (.cells #[vS x.nm,vS x.tx] 133)).alloc (.cells #[vN] 40):=⟨_,rfl⟩;rw [<- hW];have H:Hid (W9 w (vL a fs.length X) x W):=by
  rw [hW];exact ⟨(P6.alloc X4 _).alloc U7 _,G9 (G9 (Y4 w [_] 40) _) _,G9 (Nv (xs:=[_,_]) X4) _,Nv (xs:=[_]) X4⟩
 clear hW;refine (VZ a X fs W O0 (fun i=>⟨G7 (hs i).1 O0,G7 (hs i).2 O0⟩) (J5 HAT.out H.out.b)).mono ?_;rintro e w1 ⟨⟨b,rfl,hbt⟩,hb1⟩;have L:=Vp (H.out.below hb1);have HTT:=Vp hbt.1;have HTN:=Vp hbt.2;clear H hbt hb1;have E:=L.out.h0.cell 0;have r:=L.out.h1.cell 0;have q:=L.out.h1.cell 1;have m:=L.out.h2.cell 0;have Q:=L.out.h2.opn 0;simp only [gz] at E r q m;cases b
 · go_wp2;exact pY (jg _ _ _ m) (L.out.b.setCell (by show _<=w.heap.size+1+1;omega) _) 1 (.inl ⟨fun h=>absurd (HTN.out h) o6,rfl,rfl⟩) _ rfl rfl
 have HTR:=Vp (HTT.out rfl);clear HTT
 go_wp2_with fail
 refine (bU x w1 ⟨G7 hx.1 O0,G7 hx.2 O0⟩).mono ?_;rintro e w2 ⟨rfl,hb2⟩;have s:=Vp (L.out.below hb2);clear L hb2 E r q m Q;have E:=s.out.h0.cell 0;have r:=s.out.h1.cell 0;have q:=s.out.h1.cell 1;have m:=s.out.h2.cell 0;have Q:=s.out.h2.opn 0;simp only [gz] at E r q m;cases hf:Q_ x
 · go_wp2;exact pY (jg _ _ _ m) (s.out.b.setCell (by show _<=w.heap.size+1+1;omega) _) 2 (.inr (.inl ⟨HTR.out,hf,rfl,rfl⟩)) _ rfl rfl
 go_wp2_with fail
 refine (a1F a X fs x.nm w2 hl (J5 HAT.out s.out.b)).mono ?_;rintro e D ⟨⟨v,gs,rfl,hr,hg,hsub,hfi⟩,hb3⟩;have HFI:=Vp hfi;have HFO:=Vp hf;have A:=Vp (s.out.below hb3);have J:=Vp hr;have a5t:=Vp hsub;have hz2:=s.out.b.size;have h2l:=s.out.h2.lt;clear s hb3 hr hsub hfi E r q m Q hf;obtain ⟨va,O,rfl⟩:=I_ J.out;have E:=A.out.h0.cell 0;have r:=A.out.h1.cell 0;have q:=A.out.h1.cell 1;have m:=A.out.h2.cell 0;have Q:=A.out.h2.opn 0;simp only [gz] at E r q m;have hz3:=A.out.h2.lt;have hz1:=A.out.h1.lt;by_cases hbig:40<=gs.length
 · go_wp2;exact pY ((Qh _ _ _ U7).trans (jg _ _ _ m)) ((A.out.b.setCell (by show _<=w.heap.size+1+1;omega) _).alloc U7 _) 3 (.inr (.inr (.inl ⟨HTR.out,HFO.out,(by show 40<=(fs.filter (nq x.nm)).length;rw [<- HFI.out];exact hbig),rfl,rfl⟩))) _ rfl rfl
 obtain ⟨w4,hw4⟩:∃ u:World,u=D.alloc (.cells #[vL va gs.length O] 40):=⟨_,rfl⟩;have hb4:Bw D w4:=by rw [hw4];exact P6
 have R:Hid (Cl w4 D.heap.size 40 [vL va gs.length O]):=by show Cl _ _ _ _;rw [hw4];exact Y4 D [_] 40
 have H4:=Vp (A.out.below hb4);have HR4:=Vp (ownsRow_below J.out hb4)
 go_wp2_with fail
 rw [<- hw4];clear hw4;have hz4:=R.out.lt;clear E r q m Q A J;go_loopw [7] (fun i wr=>Hid (Below w4.heap.size w4 wr)/\∃ k:Nat,i=.int .i64 k/\k<=gs.length/\Hid (NZ gs x k)) (fun i _=>gs.length - (RowKit.intOf i).toNat)
 case atStart=>exact ⟨Z4 _ _,0,rfl,J4 _,fun j h=>absurd h (J8 _)⟩
 obtain ⟨V,k,rfl,hk,HU⟩:=hrel;have H:=Vp (H4.out.below V.out);have R:=Vp (R.out.below V.out R.out.lt);have J:=Vp (ownsRow_below HR4.out V.out);clear H4 HR4;have hz1:=H.out.h2.lt;have hz4:=R.out.lt;have r:=H.out.h1.cell 0;have q:=H.out.h1.cell 1;have m:=H.out.h2.cell 0;have Q:=H.out.h2.opn 0;have d3:=R.out.cell 0;simp only [gz] at r q m d3;have HST:Hid (∀ kk:Nat,kk<gs.length->∃ g,va=some ⟨g,0,none⟩/\wr.cell? ⟨g,kk*2,none⟩=some (vS (gs.getD kk I8).nm)):=fun kk hkk=>a0d J.out hkk;have HOW:Hid (∀ y,Bw wr y->∀ g,(Value.slice va gs.length O).ownBlock=some g->y.heap[g]?=wr.heap[g]?):=fun y d g e=>d.block g (J.out.lt g e).2;have p:Hid (∀ y,Bw wr y->y.cell? ⟨D.heap.size,0,none⟩=some (vL va gs.length O)/\y.cell? ⟨w.heap.size+1,0,none⟩=some (vS x.nm)/\y.cell? ⟨w.heap.size+1,1,none⟩=some (vS x.tx)):=fun y d=>⟨(d.cell hz4).trans d3,(d.cell (by show w.heap.size+1<_;omega)).trans r,(d.cell (by show w.heap.size+1<_;omega)).trans q⟩;have hcase:(∃ g,k<gs.length/\va=some ⟨g,0,none⟩/\wr.cell? ⟨g,k*2,none⟩=some (vS (gs.getD k I8).nm))\/k=gs.length:=by
  rcases Q7 k gs.length with h | h
  · obtain ⟨g,h1,h2⟩:=HST.out k h;exact .inl ⟨g,h,h1,h2⟩
  exact .inr O0
 clear HST;have mark:=trivial;rcases hcase with ⟨g,hlt,rfl,hgc⟩ | hlt
 case' inl=>
  have HL1:Hid (Op.bytesLess (gs.getD k I8).nm.toList x.nm.toList=true->NZ gs x (k+1)):=fun h j hj=>by
   rcases Q7 j k with h1 | h1
   · exact HU.out j h1
   obtain rfl:j=k:=O0;exact h
  have HL0:Hid (Op.bytesLess (gs.getD k I8).nm.toList x.nm.toList=false->Stop gs x k):=fun h _=>h;generalize (gs.getD k I8).nm=nk at*
  go_wp2_with fail
  refine wp_region_held_drew (S:=fun u=>u.cell? ⟨D.heap.size,0,none⟩=some (vL (some ⟨g,0,none⟩) gs.length O)/\u.cell? ⟨w.heap.size+1,0,none⟩=some (vS x.nm)/\u.cell? ⟨g,k*2,none⟩=some (vS nk)) Y2 ?_ fun hH=>?_
  · ((try dsimp only);go_keep)
  refine tq 0 hH ?_;refine tq 1 hH ?_;refine tq 2 hH ?_;refine tq 3 hH ?_;refine tq 4 hH ?_;refine Y0 5 ?_;refine tq 6 hH ?_;refine tq 7 hH ?_;refine Y0 8 ?_;refine tq 9 hH ?_;refine tq 10 hH ?_;refine Y0 11 ?_;refine tq 12 hH ?_;refine tq 13 hH ?_;refine Y0 14 ?_;refine Y0 15 ?_;refine wdn ?_;clear hH hgc;go_simp;generalize (Op.bytesLess nk.toList x.nm.toList)=lb at*;cases lb;rotate_left
  · have HU:=Vp (HL1.out rfl);clear HL1 HL0;go_wp2;go_roundw
    case rel=>exact ⟨V.out.trans ((Z4 _ _).drew.mono V.out.size),k+1,by go_num,O0,HU⟩
    case measure=>simp [RowKit.intOf];omega
  have HS:=Vp (HL0.out rfl);clear HL1 HL0
  go_wp2_with fail
  clear hlt;generalize (some (⟨g,0,none⟩:Addr))=va at*;revert mark
 case' inr=>
  have hnl:decide (k<gs.length)=false:=S9 O0;have HS:Hid (Stop gs x k):=fun h=>absurd h O0;clear hlt
  go_wp2_with fail
  refine wp_region_held_drew (S:=fun u=>u.cell? ⟨D.heap.size,0,none⟩=some (vL va gs.length O)) Y2 ?_ fun hH=>?_
  · ((try dsimp only);go_keep)
  refine tq 0 hH ?_;refine tq 1 hH ?_;refine tq 2 hH ?_;refine tq 3 hH ?_;refine tq 4 hH ?_;refine Y0 5 ?_;refine uq 6 hH ?_;refine E5 7 ?_;refine uq 8 hH ?_;refine E5 9 ?_;refine uq 10 hH ?_;refine E5 11 ?_;refine uq 12 hH ?_;refine E5 13 ?_;refine E5 14 ?_;refine Y0 15 ?_;refine wdn ?_
  go_wp2_with fail
  revert mark
 all_goals
  intro _;obtain ⟨v47,hs1,SR1⟩:=a1k (t:=38) underlying38 Y2 (fun u=>sizeOf133 u) J.out hk;obtain ⟨v55,hs2,SR2⟩:=a1e (t:=38) underlying38 Y2 (fun u=>sizeOf133 u) J.out hk;have S1:Hid (∀ y,Bw wr y->Src y v47 2 k ((lu gs).take (k*2))):=fun y d=>SR1 y (HOW.out y d);have S2:Hid (∀ y,Bw wr y->Src y v55 2 (gs.length - k) ((lu gs).drop (k*2))):=fun y d=>SR2 y (HOW.out y d);clear SR1 SR2;refine wp_region_held_drew (S:=fun u=>u.cell? ⟨D.heap.size,0,none⟩=some (vL va gs.length O)/\u.cell? ⟨w.heap.size+1,0,none⟩=some (vS x.nm)/\u.cell? ⟨w.heap.size+1,1,none⟩=some (vS x.tx)) Y2 ?_ fun hH=>?_
  · exact p.out _ (Z4 _ wr).drew.drew
  obtain ⟨u,hu⟩:∃ u:World,u=wr.drew.drew:=⟨_,rfl⟩;rw [<- hu] at hH ⊢;have Lu:Bw wr u:=by rw [hu];exact (Z4 _ wr).drew.drew
  clear hu;refine tq 1 hH ?_;refine tq 2 hH ?_;refine Y0 3 ?_;refine tq 4 hH ?_;refine Y0 6 ?_;refine tq 9 hH ?_;refine tq 10 hH ?_;refine Y0 11 ?_;refine Y0 12 ?_;have a4L:=trivial;have row:Hid (∀ y,Bw wr y->Bw wr (y.alloc (.cells #[] 133))/\(y.alloc (.cells #[] 133)).ownsRow wr.heap.size 133 2 (vL (some ⟨y.heap.size,0,none⟩) 0 0) 0 []):=fun y d=>⟨d.alloc d.size _,row0 y 133 2 d.size⟩;refine wpAnyH_ready (rs:=[0,7]) Y2 X4 (AllReadyH.cons (o:=⟨some 43,.buildSlice 38 0 #[],38,_,_,none⟩) rfl (fun K c=>?_) (AllReadyH.cons (o:=⟨some 50,.buildSlice 38 1 #[(0,.tmp 49)],38,_,_,none⟩) rfl (fun K c=>?_) AllReadyH.nil));rotate_left;go_simp;obtain ⟨f,C⟩:∃ y:World,y=u.alloc (.cells #[vS x.nm,vS x.tx] 133):=⟨_,rfl⟩;rw [<- C];have by1:Bw u f:=by rw [C];exact P6
  have Cy1:Hid (Cl f u.heap.size 133 [vS x.nm,vS x.tx]):=by show Cl _ _ _ _;rw [C];exact Y4 u _ 133
  have z:=X5 Lu by1;clear C hH;refine E8 c ?_ fun hH=>?_
  · exact p.out _ z
  clear c K;refine rq 0 fun K c=>?_;go_simp;obtain ⟨n,B⟩:∃ y:World,y=f.alloc (.cells #[] 133):=⟨_,rfl⟩;rw [<- B];have Y:Bw f n:=by rw [B];exact P6
  have U:=Vp (row.out f z).2;rw [<- B] at U;have l:=X5 z Y;clear B hH;have N:=Vp (Cy1.out.below Y Cy1.out.lt);refine E8 c ?_ fun hH=>?_
  · exact p.out _ l
  clear c K;refine rq 5 fun K c=>?_;refine Aa rfl _ _ 38 rfl wr.heap.size 133 2 underlying38 Yu o6 _ 0 [] rfl U.out _ k _ rfl (S1.out n l) (fun v hv=>iF gs v (Rx hv)) O0 l.size ?_;intro v48 y3 F P _;have I:=Bg l P l.size (fun j e=>(U.out.lt j e).1);have F:=Vp F;have N:=Vp (pX N.out P (by have:=Cy1.out.lt;omega));clear P hH;refine E8 c ?_ fun hH=>?_
  · exact p.out _ I
  clear c K;generalize u.heap.size=B5 at N ⊢;revert a4L;rotate_left;go_simp;obtain ⟨f,C⟩:∃ y:World,y=u.alloc (.cells #[] 133):=⟨_,rfl⟩;rw [<- C];have by1:Bw u f:=by rw [C];exact P6
  have Ey1:=Vp (row.out u Lu).2;rw [<- C] at Ey1;have z:=X5 Lu by1;clear C hH;refine E8 c ?_ fun hH=>?_
  · exact p.out _ z
  clear c K;refine wpAnyH_ready (rs:=[5,7]) Y2 X4 (AllReadyH.cons (o:=⟨some 48,.call ⟨.builtin .append,#[.tmp 43,.tmp 47],#[38,38]⟩,38,_,_,none⟩) rfl (fun K c=>?_) (AllReadyH.cons (o:=⟨some 50,.buildSlice 38 1 #[(0,.tmp 49)],38,_,_,none⟩) rfl (fun K c=>?_) AllReadyH.nil));refine Aa rfl _ _ 38 rfl wr.heap.size 133 2 underlying38 Yu o6 _ 0 [] rfl Ey1.out _ k _ rfl (S1.out f z) (fun v hv=>iF gs v (Rx hv)) O0 z.size ?_;intro v48 n Ry2 gy2 _;have l:=Bg z gy2 z.size (fun j e=>(Ey1.out.lt j e).1);have Ry2:=Vp Ry2;clear gy2 hH;refine E8 c ?_ fun hH=>?_
  · exact p.out _ l
  clear c K;refine rq 7 fun K c=>?_;go_simp;obtain ⟨y3,hy3⟩:∃ y:World,y=n.alloc (.cells #[vS x.nm,vS x.tx] 133):=⟨_,rfl⟩;rw [<- hy3];have by3:Bw n y3:=by rw [hy3];exact P6
  have N:Hid (Cl y3 n.heap.size 133 [vS x.nm,vS x.tx]):=by show Cl _ _ _ _;rw [hy3];exact Y4 n _ 133
  have I:=X5 l by3;clear hy3 hH;have F:=Vp (ownsRow_below Ry2.out by3);refine E8 c ?_ fun hH=>?_
  · exact p.out _ I
  clear c K;generalize n.heap.size=B5 at N ⊢;revert a4L;rotate_left;go_simp;obtain ⟨n,B⟩:∃ y:World,y=f.alloc (.cells #[vS x.nm,vS x.tx] 133):=⟨_,rfl⟩;rw [<- B];have Y:Bw f n:=by rw [B];exact P6
  have Cy2:Hid (Cl n f.heap.size 133 [vS x.nm,vS x.tx]):=by show Cl _ _ _ _;rw [B];exact Y4 f _ 133
  have l:=X5 z Y;clear B hH;have U:=Vp (ownsRow_below Ey1.out Y);refine E8 c ?_ fun hH=>?_
  · exact p.out _ l
  clear c K;refine rq 5 fun K c=>?_;refine Aa rfl _ _ 38 rfl wr.heap.size 133 2 underlying38 Yu o6 _ 0 [] rfl U.out _ k _ rfl (S1.out n l) (fun v hv=>iF gs v (Rx hv)) O0 l.size ?_;intro v48 y3 F P _;have I:=Bg l P l.size (fun j e=>(U.out.lt j e).1);have F:=Vp F;have N:=Vp (pX Cy2.out P (by have:u.heap.size<f.heap.size:=(Ey1.out.lt _ rfl).2;omega));clear P hH;refine E8 c ?_ fun hH=>?_
  · exact p.out _ I
  clear c K;generalize f.heap.size=B5 at N ⊢;revert a4L
  all_goals
   intro _;refine rq 8 fun K c=>?_;refine Aa rfl _ _ 38 rfl wr.heap.size 133 2 underlying38 Yu o6 _ (0+k) _ rfl F.out _ 1 [vS x.nm,vS x.tx] rfl (.inr ⟨⟨B5,0,none⟩,1,rfl,rfl,um N.out⟩) (by simp [Value.oneCell']) O0 I.size ?_;intro v51 y4 Ry4 gy4 _;have Ly4:=Bg I gy4 I.size (fun j e=>(F.out.lt j e).1);have Ry4:=Vp Ry4;clear gy4 hH;refine E8 c ?_ fun hH=>?_
   · exact p.out _ Ly4
   clear c K;refine rq 13 fun K c=>?_;refine Aa rfl _ _ 38 rfl wr.heap.size 133 2 underlying38 Yu o6 _ (0+k+1) _ rfl Ry4.out _ (gs.length - k) _ rfl (S2.out y4 Ly4) (fun v hv=>iF gs v (UH hv)) O0 Ly4.size ?_;intro v56 y5 Z gy5 _;rw [show 0+k+1+(gs.length - k)=gs.length+1 from by omega,Ua] at Z;have Ly5:=Bg Ly4 gy5 Ly4.size (fun j e=>(Ry4.out.lt j e).1);obtain ⟨va5,vc5,rfl⟩:=I_ Z;have Z:=Vp Z;clear gy5 hH;refine E8 c ?_ fun hH=>?_
   · exact p.out _ Ly5
   clear c K;refine Y0 14 ?_;refine rq 15 fun K c=>?_;have C5:=H.out.h2.below Ly5 hz1;have e2:=C5.cell 0;have e3:=C5.opn 0;dsimp only [List.getElem?_cons_zero] at e2;obtain ⟨s1,s2,s3⟩:=p.out y5 Ly5;go_simp;clear hH;refine E8 c ?_ fun hH=>?_
   · exact ⟨(Na _ _ _ _ (by simp <;> omega)).trans s1,(Na _ _ _ _ X4).trans s2,(Na _ _ _ _ X4).trans s3⟩
   clear c K;refine Y0 16 ?_;refine wdn ?_;clear hH;go_wp2;have er:=jg y5 ⟨w.heap.size+1+1,0,none⟩ (vL va5 (gs.length+1) vc5) e2;refine Y6 (v:=.tuple #[.agg #[vL va5 (gs.length+1) vc5],vO]) (by simp [results,results143,go_sem,er]) rfl ⟨⟨_,0,gs.take k++[x]++gs.drop k,rfl,?_,U7,(fun y d=>?_),DV HTR.out HFO.out HFI.out O0 hk HU.out HS.out⟩,?_⟩
   · have h:=Yf (XE (b:=w.heap.size+1+1) (j:=0) (x:=vL va5 (gs.length+1) vc5) Z.out O0) (B':=w.heap.size) O0;have e1:(gs.take k++[x]++gs.drop k).length=gs.length+1:=U7;rw [e1,wK,wK,bQ,CO];exact h
   · simp only [Yg,Dv] at d;rcases d with (h | h) | h
     · exact .inl (a5t.out y (Rx h))
     · exact .inr h
     exact .inl (a5t.out y (UH h))
   exact (H.out.b.trans (Ly5.mono H.out.b.size)).setCell (by show w.heap.size<=w.heap.size+1+1;omega) _
