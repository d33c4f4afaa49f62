import Derived.Test.YtdjaajjndfbpmaaGreatDoorDD
import Derived.Test.YtdjaajjndfbpmaaGreatDoorZ48
set_option linter.unusedVariables false
set_option maxHeartbeats 8000000
set_option maxRecDepth 100000
namespace Go.Proofs.YtdjaajjndfbpmaaGreatDoor
open Proofs.Tryz
open Go.RowKit
open G (jf H6)
open G.T (F2 P6 X3 F3 lt)
variable {ws:List W8} {ms:List M3} {fs:List F2}
theorem wB {E:Env} (hE:Y7 E) (b:ws.map (·.m)=ms.map toM) (a:E.ms=ms.map toM) {m:M3} (h:m∈E.ms):∃ z,L_ ws m.nm=some z/\z.m=m:=by
 rw [a,<- b] at h;obtain ⟨z,c,rfl⟩:=D9.1 h
 cases hf:L_ ws z.m.nm with
 | none=>
  unfold L_ at hf;have:=cB.1 hf z c;simp at this
 | some y=>
  refine ⟨y,rfl,?_⟩;obtain ⟨h1,i,f,h2⟩:=Ch hf;have e:y.m∈E.ms:=by
   rw [a,<- b];refine D9.2 ⟨y,?_,rfl⟩;rw [<- h2];simp [List.getD,F8 f]
  have d:z.m∈E.ms:=by rw [a,<- b];exact D9.2 ⟨z,c,rfl⟩
  exact hE.one _ _ e d h1
open Classical in
theorem CE (u:X3 fs) (v:H6 fs ms) (j:∀ i,i<ws.length->az (P5 fs ms) (ws.getD i J9)) (y:ws.map (·.m)=ms.map toM) (B:∀ i,i<ws.length->VJ fs ms ws (ws.getD i J9)) (n:ByteArray):BN (P5 fs ms) n ((L_ ws n).elim [] (·.ls)):=by
 have hE:=zb u v;have c:∀ {m:M3},m∈(P5 fs ms).ms->∃ z,L_ ws m.nm=some z/\z.m=m/\az (P5 fs ms) z/\VJ fs ms ws z:=fun h=>by
  obtain ⟨z,h1,h2⟩:=wB hE y rfl h;obtain ⟨_,i,d,h3⟩:=Ch h1;exact ⟨z,h1,h2,h3▸j i d,h3▸B i d⟩
 cases hpl:jf fs ms n with
 | some p=>
  have h1:(P5 fs ms).pl n=some (Rq p):=by show (jf fs ms n).map Rq=_;rw [hpl];rfl
  refine .inl ⟨by rw [h1];simp,?_⟩
  cases hf:L_ ws n with
  | none=>rfl
  | some z=>
   obtain ⟨F,i,d,E⟩:=Ch hf;have:=(hE.made n).2 ⟨z.m,E▸(j i d).mem,F⟩;rw [h1] at this;cases this
 | none=>
  have b:=ym.2 hpl;obtain ⟨m,f,rfl⟩:=(hE.made n).1 b;obtain ⟨z,t,rfl,s,hzb⟩:=c f;refine .inr ⟨z.m,f,rfl,by rw [t];exact s.his,fun ls A=>?_⟩;have key:=Qr hE (D:=fun m=>m∈(P5 fs ms).ms) (O:=fun m=>(L_ ws m.nm).elim False (fun z=>z.ov=true)) (L:=fun m=>(L_ ws m.nm).elim [] (·.ls)) (fun m h=>h) (fun m h=>by
   obtain ⟨z,h1,rfl,h3,_⟩:=c h;show I9 _ _ ((L_ ws z.m.nm).elim [] (·.ls));rw [h1];exact h3.his) (fun m h ho=>by
   obtain ⟨z,h1,rfl,h3,_⟩:=c h;show (tn z.m ((L_ ws z.m.nm).elim [] (·.ls))).over=true;rw [h1] at ho ⊢;exact (h3.ov ho).1) (fun m h k=>by
   obtain ⟨z,h1,rfl,h3,C⟩:=c h;show (tn z.m ((L_ ws z.m.nm).elim [] (·.ls))).over=false/\(tn z.m ((L_ ws z.m.nm).elim [] (·.ls))).has=false/\(P5 fs ms).pl (tn z.m ((L_ ws z.m.nm).elim [] (·.ls))).name=none/\∀ m',m'∈(P5 fs ms).ms->m'.nm=(tn z.m ((L_ ws z.m.nm).elim [] (·.ls))).name->m'∈(P5 fs ms).ms/\¬ (L_ ws m'.nm).elim False (fun z=>z.ov=true);rw [h1] at k ⊢;have r:z.ov=false:=by cases ho:z.ov;rfl;exact absurd ho k
   obtain ⟨q,o,a,_⟩:=C r;have b:jf fs ms (tn z.m z.ls).name=none:=by
    cases hq:jf fs ms (tn z.m z.ls).name with
    | none=>rfl
    | some p=>unfold Rj at a;rw [hq] at a;cases a
   refine ⟨q,o,ym.2 b,fun m' l x=>⟨l,?_⟩⟩;obtain ⟨e,g,rfl,k3,k4⟩:=c l;rw [g];intro ho;have w:e.m.nm=(tn z.m z.ls).name:=x;rw [<- w] at a b;unfold Rj at a;rw [b,g] at a;have a:e.ov=false:=a;have ho:e.ov=true:=ho;rw [ho] at a;cases a) A f
  exact key
def Nl (p:R2×Bool):R2:=if p.2 then p.1 else ⟨6,⟨#[]⟩⟩
noncomputable def dW (fs:List F2) (ms:List M3) (ws:List W8) (n:ByteArray):Dd:=match L_ ws n with
 | some z=>⟨n,true,z.m,z.ls,Nl (Rj fs ms ws n),z.wt⟩
 | none=>⟨n,false,N7,[],Nl (Rj fs ms ws n),⟨#[]⟩⟩
theorem Vr (e:X3 fs) (g:H6 fs ms) (j:∀ i,i<ws.length->az (P5 fs ms) (ws.getD i J9)) (k:ws.map (·.m)=ms.map toM) (o:∀ i,i<ws.length->VJ fs ms ws (ws.getD i J9)) (n:ByteArray):Xc (P5 fs ms) n (dW fs ms ws n):=by
 have hE:=zb e g;have c:=CE e g j k o n
 cases hf:L_ ws n with
 | none=>
  rw [hf] at c
  cases hpl:jf fs ms n with
  | none=>
   obtain ⟨m,w,rfl⟩:=(hE.made n).1 (ym.2 hpl);obtain ⟨z,h1,_⟩:=wB hE k rfl w;rw [hf] at h1;cases h1
  | some p=>
   refine .inl ⟨Rq p,by show (jf fs ms n).map Rq=_;rw [hpl];rfl,?_⟩;unfold dW Nl Rj;rw [hf,hpl];rfl
 | some z=>
  obtain ⟨rfl,i,l,x⟩:=Ch hf;have a:=j i l;have d:=o i l;rw [x] at a d;have f:=(hE.made z.m.nm).2 ⟨z.m,a.mem,rfl⟩;rw [hf] at c;rcases c with ⟨h,_⟩ | ⟨m',t,s,r,q⟩
  · exact absurd f h
  obtain rfl:=hE.one _ _ t a.mem s;refine .inr ⟨z.m,z.ls,a.mem,rfl,r,q,?_⟩;unfold dW Nl Rj;rw [hf,ym.1 f];dsimp only;by_cases ho:z.ov=true
  · obtain ⟨b,v⟩:=a.ov ho
    rw [Y3 ho,Y3 b,Y3 b,v,a.wt ho]
  obtain ⟨b,_,_,u⟩:=d (by simpa using ho);rw [R3 ho,R3 (by rw [b];simp),R3 (by rw [b];simp),u]
theorem VF (f:H6 fs ms) (c:ws.map (·.m)=ms.map toM) {i:Nat} (d:i<ws.length):L_ ws (ws.getD i J9).m.nm=some (ws.getD i J9):=by
 have hl:ws.length=ms.length:=by simpa using V3 List.length c
 have b:∀ j,j<ws.length->(ws.getD j J9).m.nm=(ms.getD j N7).nm:=fun j a=>by
  have:(ws.map (·.m))[j]?=(ms.map toM)[j]?:=by rw [c]
  rw [Kb,Kb,F8 a,F8 O0] at this;have e:ws[j].m=toM ms[j]:=j6 this;simp only [List.getD,F8 a,F8 (show j<ms.length by omega),xA];rw [e];rfl
 refine aB d (fun j a e=>?_) rfl;rw [b j O0,b i d] at e;have:=G.Yt (G.Lf f) O0 O0 e;omega
theorem QL (c:X3 fs) (a:H6 fs ms) (h:∀ i,i<ws.length->az (P5 fs ms) (ws.getD i J9)) (e:ws.map (·.m)=ms.map toM) (l:∀ i,i<ws.length->VJ fs ms ws (ws.getD i J9)):BO (P5 fs ms) ws:=by
 have f:=Vr c a h e l;refine ⟨fun i b k j=>⟨_,f _,?_⟩,fun n k ⟨d,h1,h2⟩=>?_⟩
 · unfold dW;rw [VF a e b];exact j
 obtain rfl:=Ki (zb c a) h1 (f n);unfold dW at h2
 cases hf:L_ ws n with
 | none=>rw [hf] at h2;simp [qa] at h2
 | some z=>
  rw [hf] at h2;obtain ⟨o,i,b,g⟩:=Ch hf;exact ⟨i,b,by rw [g];exact o,by rw [g];exact h2⟩
theorem dQ (a:Option Addr) (cap:Nat) (fs:List F2) (ms:List M3) (g:Option Addr) (wc:Nat) (ws:List W8) (nm:ByteArray) (w:World) (I:fs.length<=1048576) (x:∀ i,(fs.getD i P6).le 1048576) (z:F3 w a fs) (D:X3 fs) (E:H6 fs ms) (H:ws.length<=300) (s:Zh w g ws):
 Calls prog 30 #[.agg #[.slice a fs.length cap],.slice g ws.length wc,.string nm] w fun e w'=>e=.returned (.agg #[.int .i64 (Nl (Rj fs ms ws nm)).code,.string (Nl (Rj fs ms ws nm)).tx])/\Below w.heap.size w w':=by
 have m:∀ o1 o2,Below w.heap.size w ((w.alloc o1).alloc o2):=fun o1 o2=>bA.alloc X0 _;have B:=fun u (y:Below w.heap.size w u)=>JP a cap fs ms g wc ws nm u I x (G.T.U0 z y) D E H (Xd s y);clear z x s;obtain ⟨kn,C⟩:∃ k,Hid (Rj fs ms ws nm=k):=⟨_,rfl⟩;rw [C.out];go_enter func30,ntmps30
 go_wp2_with fail
 refine (B _ (m _ _)).mono ?_;rintro e w1 ⟨h1,l⟩;have A:=(m _ _).trans (l.mono J4);have j:Below (w.heap.size+2) ((w.alloc (.cells #[.slice a fs.length cap] 25)).alloc (.cells #[.int .i64 0,.string ⟨#[]⟩] 34)) w1:=by have h:=l;simp at h;exact h
 obtain ⟨t0,⟨q,p⟩,y0,y1⟩:=G.sM j;have r:w.heap.size+1<w1.heap.size:=by have:=j.size;simp at this;omega
 clear l B j m;rw [C.out] at h1;obtain ⟨⟨c,t⟩,b⟩:=kn;have J:e=.returned (.tuple #[.agg #[.int .i64 c,.string t],.bool b]):=h1;subst J;clear h1;cases b
 · go_wp2
   have F:=G.N9 w1 (w.heap.size+1) (.int .i64 6) (.string ⟨#[]⟩) _ _ q p;have f:Below w.heap.size w ((w1.setCell ⟨w.heap.size+1,0,none⟩ (.int .i64 6)).setCell ⟨w.heap.size+1,1,none⟩ (.string ⟨#[]⟩)):=(A.setCell X0 _).setCell X0 _;have d:w.heap.size+1<((w1.setCell ⟨w.heap.size+1,0,none⟩ (.int .i64 6)).setCell ⟨w.heap.size+1,1,none⟩ (.string ⟨#[]⟩)).heap.size:=by simpa using r
   generalize ((w1.setCell ⟨w.heap.size+1,0,none⟩ (.int .i64 6)).setCell ⟨w.heap.size+1,1,none⟩ (.string ⟨#[]⟩))=U at*;have n:=fun o=>(G.w_ d 0 o).trans F.1;have F2:=fun o=>(G.w_ d 1 o).trans F.2;refine K4 (v:=.agg #[.int .i64 6,.string ⟨#[]⟩]) (by simp [results,results30,go_sem,n,F2]) rfl ⟨rfl,?_⟩;exact f.alloc f.size _
 go_wp2;have F:=G.N9 w1 (w.heap.size+1) (.int .i64 c) (.string t) _ _ q p;have f:Below w.heap.size w ((w1.setCell ⟨w.heap.size+1,0,none⟩ (.int .i64 c)).setCell ⟨w.heap.size+1,1,none⟩ (.string t)):=(A.setCell X0 _).setCell X0 _;have d:w.heap.size+1<((w1.setCell ⟨w.heap.size+1,0,none⟩ (.int .i64 c)).setCell ⟨w.heap.size+1,1,none⟩ (.string t)).heap.size:=by simpa using r
 generalize ((w1.setCell ⟨w.heap.size+1,0,none⟩ (.int .i64 c)).setCell ⟨w.heap.size+1,1,none⟩ (.string t))=U at*;have n:=fun o=>(G.w_ d 0 o).trans F.1;have F2:=fun o=>(G.w_ d 1 o).trans F.2;refine K4 (v:=.agg #[.int .i64 c,.string t]) (by simp [results,results30,go_sem,n,F2]) rfl ⟨rfl,?_⟩;exact f.alloc f.size _
theorem zQ (S:Option Addr) (wc:Nat) (ws:List W8) (nm:ByteArray) (w:World) (GU:ws.length<=300) (X:Zh w S ws) (s:∀ i,i<ws.length->∃ a n c,(ws.getD i J9).lv=.slice a n c):
 Calls prog 57 #[.slice S ws.length wc,.string nm] w fun e w'=>e=.returned (.tuple #[.agg ((L_ ws nm).getD J9).vs.toArray,.bool (L_ ws nm).isSome])/\Below w.heap.size w w':=by
 obtain ⟨b,q,Z⟩:=Zr X;have HC:=Q0 Z;have A:=Q0 s;have z:Hid ((∀ j,j<ws.length->(ws.getD j J9).m.nm≠nm)->L_ ws nm=none):=fun h=>Iy h;have y:Hid (∀ k,k<ws.length->(∀ j,j<k->(ws.getD j J9).m.nm≠nm)->(ws.getD k J9).m.nm=nm->L_ ws nm=some (ws.getD k J9)):=fun k Y h1 h2=>aB Y h1 h2;obtain ⟨U,t⟩:∃ U,U=w.alloc (.cells #[.string ⟨#[]⟩,.string ⟨#[]⟩,.string ⟨#[]⟩,.slice none 0 0,.bool false,.int .i64 0,.string ⟨#[]⟩,.string ⟨#[]⟩] 108):=⟨_,rfl⟩;have HU:=Q0 t;have u:Below w.heap.size w U:=by rw [t];exact bA
 have CU:Hid (Cl U w.heap.size 108 z8):=by show Cl _ _ _ _;rw [t];exact U1 w _ 108
 clear X Z s t;go_enter func57,ntmps57
 go_wp2_with fail
 go_loopw [6] (fun C wr=>∃ k:Nat,k<=ws.length/\C=.int .i64 k/\wr=U/\Hid (∀ j,j<k->(ws.getD j J9).m.nm≠nm)) (fun C _=>ws.length - (intOf C).toNat)
 case atStart=>exact ⟨0,I5 _,rfl,HU.out.symm,fun j h=>absurd h (F5 _)⟩
 obtain ⟨k,Y,rfl,rfl,f⟩:=hrel;by_cases d:k<ws.length;rotate_left
 · have F:=Q0 (z.out (fun j hj=>f.out j O0))
   clear y z f A
   go_wp2_with (refine Zi rfl 108 _ _ rfl (B:=w.heap.size) (j:=0) rfl (vs:=z8) rfl CU.out (by simp [z8]) (by intro v hv;simp [z8] at hv;rcases hv with rfl | rfl | rfl | rfl | rfl <;> rfl) U2 ?_;intro w5 o l;have J:=Q0 o;have H:=Q0 l;clear o l)
   refine K4 (Nb (P:=prog) (ty:=108) rfl _ _ w.heap.size _ _ rfl J.out.blk underlying108 rfl U2) rfl ?_;exact ⟨by rw [F.out];rfl,u.trans (H.out.below P9)⟩
 rcases HC.out with hss | ⟨ha,hbw,D⟩
 · rw [hss] at d;exact absurd d (F5 _)
 subst ha;have g0:=(u.cell (p:=⟨b,q+k*8,none⟩) hbw).trans (D k d 0 _ rfl);have HX:Hid (∀ j v,(ws.getD k J9).vs[j]?=some v->wr.cell? ⟨b,q+k*8+j,none⟩=some v):=fun j v e=>(u.cell (p:=⟨b,q+k*8+j,none⟩) hbw).trans (D k d j v e);obtain ⟨la,V,W,s⟩:=A.out k d;have E:=Q0 (y.out k d f.out);have I:Hid ((ws.getD k J9).m.nm≠nm->∀ j,j<k+1->(ws.getD j J9).m.nm≠nm):=fun h j hj=>by
  rcases U5 j k with h1 | h1
  · exact f.out j h1
  obtain rfl:j=k:=O0;exact h
 generalize ws.getD k J9=x at*;obtain ⟨⟨g,N,R⟩,xl,xs,O,Q,K,L⟩:=x;dsimp only at*;subst s;clear D;cases hq:(g.toList==nm.toList);rotate_left
 · have r:g=nm:=by
    have:=Vf.1 hq;rw [I7,I7] at this;exact Hd (ag.1 this)
   have F:=Q0 (E.out r);subst r;clear I E y z f A
   go_wp2_with (first | (refine Bh rfl (yg 108 _ rfl (B:=b) (j:=q+k*8) (cs:=[.string g,.string N,.string R,.slice la V W,.bool O,.int .i64 Q,.string K,.string L]) rfl HX.out underlying108 rfl U2) ?_) | (refine Zi rfl 108 _ _ rfl (B:=w.heap.size) (j:=0) rfl (vs:=[.string g,.string N,.string R,.slice la V W,.bool O,.int .i64 Q,.string K,.string L]) rfl CU.out (by simp [z8]) (by intro v hv;simp at hv;rcases hv with rfl | rfl | rfl | rfl | rfl | rfl | rfl | rfl <;> rfl) U2 ?_;intro w5 o l;have J:=Q0 o;have H:=Q0 l;clear o l))
   refine K4 (Nb (P:=prog) (ty:=108) rfl _ _ w.heap.size _ _ rfl J.out.blk underlying108 rfl U2) rfl ?_;exact ⟨by rw [F.out];rfl,u.trans (H.out.below P9)⟩
 have r:g≠nm:=fun e=>by rw [e] at hq;simp at hq
 have HD':=Q0 (I.out r);clear I E y z f A HX;go_wp2;go_roundw
 case rel=>exact ⟨k+1,O0,by go_num,trivial,HD'⟩
 case measure=>simp [intOf];omega
end Go.Proofs.YtdjaajjndfbpmaaGreatDoor
namespace Go.Proofs.YtdjaajjndfbpmaaGreatDoor
open Go.RowKit
structure De where
 d:Dd
 lv:Value
def Pg:De:=⟨⟨⟨#[]⟩,false,N7,[],⟨0,⟨#[]⟩⟩,⟨#[]⟩⟩,.slice none 0 0⟩
def De.vs (x:De):List Value:=[.string x.d.nm,.bool x.d.md,.string x.d.m.nm,.string x.d.m.tl,.string x.d.m.ar,x.lv,.int .i64 x.d.r.code,.string x.d.r.tx]
def Zo (xs:List De):List Value:=xs.flatMap De.vs
theorem Wi (x:De):x.vs.length=8:=rfl
theorem zB (xs:List De):(Zo xs).length=xs.length*8:=by
 induction xs with
 | nil=>rfl
 | cons x r ih=>unfold Zo at *;simp only [List.flatMap_cons,List.length_append,List.length_cons,Wi,ih];omega
theorem EG (xs:List De) (x:De):Zo (xs++[x])=Zo xs++x.vs:=by simp [Zo]
theorem jv (xs:List De) (i j:Nat) (h:i<xs.length) (hj:j<8):(Zo xs)[i*8+j]?=(xs.getD i Pg).vs[j]?:=by
 induction xs generalizing i with
 | nil=>simp at h
 | cons x r ih=>
  show (x.vs++Zo r)[i*8+j]?=_
  cases i with
  | zero=>rw [Eb (by rw [Wi];omega)];simp
  | succ i=>
   rw [ji (by rw [Wi];omega),Wi];have:=ih i (by simpa using h);rw [show (i+1)*8+j - 8=i*8+j by omega];simpa using this
theorem Uu (x:De) (h:x.lv.oneCell'=true):∀ v∈x.vs,v.oneCell'=true:=by
 intro v hv;simp only [De.vs,D_,Xf,Nk] at hv;rcases hv with rfl | rfl | rfl | rfl | rfl | rfl | rfl | rfl
 all_goals first | rfl | exact h
structure P_ (base:Nat) (v:Value) (xs:List De) (w:World):Prop where
 row:w.ownsRow base 50 8 v xs.length (Zo xs)
 lk:∀ x∈xs,w.ownsRow base 52 4 x.lv x.d.ls.length (R4 x.d.ls)
 ne:xs.Pairwise fun x y=>∀ k,x.lv.ownBlock=some k->y.lv.ownBlock≠some k
theorem b_ {w:World} {base:Nat} {e:TypeId} {size n:Nat} {v:Value} {xs:List Value} (h:w.ownsRow base e size v n xs):∃ a c,v=.slice a n c:=by
 rcases h.2 with ⟨hv,h0⟩ | ⟨g,cap,cur,hv,_⟩
 · exact ⟨none,0,by rw [hv,h0]⟩
 exact ⟨_,_,hv⟩
theorem Nn {w w':World} {base base':Nat} {e b:TypeId} {size f n i:Nat} {v v':Value} {xs d:List Value} (h:w.ownsRow base e size v n xs) (k:w.ownsRow base' b f v' i d) (l:e≠b) (g:w.grownBy w' v'.ownBlock):w'.ownsRow base e size v n xs:=
 Z0 h fun j a=>g.block j (h.lt j a).2 (fun c=>by
  rcases G.own_ne h k l with h1 | h1
  · rw [h1] at a;cases a
  exact h1 (a.trans c))
theorem P_.below {base:Nat} {v:Value} {xs:List De} {w w':World} (h:P_ base v xs w) (a:Below w.heap.size w w'):P_ base v xs w':=
 ⟨ownsRow_below h.row a,fun x hx=>ownsRow_below (h.lk x hx) a,h.ne⟩
theorem P_.keep {base:Nat} {v:Value} {xs:List De} {w w':World} (h:P_ base v xs w) (hv:∀ k,v.ownBlock=some k->w'.heap[k]?=w.heap[k]?) (a:∀ x∈xs,∀ k,x.lv.ownBlock=some k->w'.heap[k]?=w.heap[k]?):P_ base v xs w':=
 ⟨Z0 h.row hv,fun x hx=>Z0 (h.lk x hx) (a x hx),h.ne⟩
theorem P_.snoc {base:Nat} {v v':Value} {xs:List De} {x:De} {w w':World} (h:P_ base v xs w) (hx:w.ownsRow base 52 4 x.lv x.d.ls.length (R4 x.d.ls)) (f:∀ y∈xs,∀ k,y.lv.ownBlock=some k->x.lv.ownBlock≠some k) (e:w'.ownsRow base 50 8 v' (xs.length+1) (Zo xs++x.vs)) (b:w.grownBy w' v.ownBlock):P_ base v' (xs++[x]) w':=by
 refine ⟨by rw [EG,Q7];exact e,fun y a=>?_,Ar.2 ⟨h.ne,jr _ _,fun y a z c=>?_⟩⟩
 · rcases P8.1 a with a | a
   · exact Nn (h.lk y a) h.row K3 b
   rw [R9.1 a];exact Nn hx h.row K3 b
 rw [R9.1 c];exact f y a
theorem zG:Inf Tryz.prog 50 8:=Ui U2
end Go.Proofs.YtdjaajjndfbpmaaGreatDoor
