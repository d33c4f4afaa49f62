import Derived.Test.YtdpoaadafcaffaaGreatDoorDD
import Derived.Test.YtdpoaadafcaffaaGreatDoorZ48
set_option linter.unusedVariables false
set_option maxHeartbeats 8000000
set_option maxRecDepth 100000
namespace Go.Proofs.YtdpoaadafcaffaaGreatDoor
open Proofs.Tryz
open Go.RowKit
open G (Ke Q6)
open G.T (F2 L6 Y3 U3 lt)
variable {ws:List W8} {ms:List M3} {fs:List F2}
theorem Zv {E:Env} (hE:l8 E) (hm:ws.map (·.m)=ms.map toM) (hms:E.ms=ms.map toM) {m:M3} (h:m∈E.ms):∃ z,g_ ws m.nm=some z/\z.m=m:=by
 rw [hms,<- hm] at h;obtain ⟨z,hz,rfl⟩:=List.mem_map.1 h
 cases hf:g_ ws z.m.nm with
 | none=>
  unfold g_ at hf;have:=List.find?_eq_none.1 hf z hz;simp at this
 | some y=>
  refine ⟨y,rfl,?_⟩;obtain ⟨h1,i,hi,h2⟩:=Qe hf;have hy:y.m∈E.ms:=by
   rw [hms,<- hm];refine List.mem_map.2 ⟨y,?_,rfl⟩;rw [<- h2];simp [List.getD,List.getElem?_eq_getElem hi]
  have hz':z.m∈E.ms:=by rw [hms,<- hm];exact List.mem_map.2 ⟨z,hz,rfl⟩
  exact hE.one _ _ hy hz' h1
open Classical in
theorem uz (ht:Y3 fs) (hp:Q6 fs ms) (hok:∀ i,i<ws.length->Tt (o7 fs ms) (ws.getD i I8)) (hm:ws.map (·.m)=ms.map toM) (hb:∀ i,i<ws.length->fF fs ms ws (ws.getD i I8)) (n:ByteArray):kH (o7 fs ms) n ((g_ ws n).elim [] (·.ls)):=by
 have hE:=qc ht hp;have hfa:∀ {m:M3},m∈(o7 fs ms).ms->∃ z,g_ ws m.nm=some z/\z.m=m/\Tt (o7 fs ms) z/\fF fs ms ws z:=fun h=>by
  obtain ⟨z,h1,h2⟩:=Zv hE hm rfl h;obtain ⟨_,i,hi,h3⟩:=Qe h1;exact ⟨z,h1,h2,h3▸hok i hi,h3▸hb i hi⟩
 cases hpl:Ke fs ms n with
 | some p=>
  have h1:(o7 fs ms).pl n=some (Wt p):=by show (Ke fs ms n).map Wt=_;rw [hpl];rfl
  refine .inl ⟨by rw [h1];simp,?_⟩
  cases hf:g_ ws n with
  | none=>rfl
  | some z=>
   obtain ⟨e1,i,hi,e2⟩:=Qe hf;have:=(hE.made n).2 ⟨z.m,e2▸(hok i hi).mem,e1⟩;rw [h1] at this;cases this
 | none=>
  have hpn:=Oi.2 hpl;obtain ⟨m,hmm,rfl⟩:=(hE.made n).1 hpn;obtain ⟨z,hz,rfl,PP,hzb⟩:=hfa hmm;refine .inr ⟨z.m,hmm,rfl,by rw [hz];exact PP.his,fun ls hh=>?_⟩;have key:=Yl hE (D:=fun m=>m∈(o7 fs ms).ms) (O:=fun m=>(g_ ws m.nm).elim False (fun z=>z.ov=true)) (L:=fun m=>(g_ ws m.nm).elim [] (·.ls)) (fun m h=>h) (fun m h=>by
   obtain ⟨z,h1,rfl,h3,_⟩:=hfa h;show V8 _ _ ((g_ ws z.m.nm).elim [] (·.ls));rw [h1];exact h3.his) (fun m h ho=>by
   obtain ⟨z,h1,rfl,h3,_⟩:=hfa h;show (tn z.m ((g_ ws z.m.nm).elim [] (·.ls))).over=true;rw [h1] at ho ⊢;exact (h3.ov ho).1) (fun m h hno=>by
   obtain ⟨z,h1,rfl,h3,h4⟩:=hfa h;show (tn z.m ((g_ ws z.m.nm).elim [] (·.ls))).over=false/\(tn z.m ((g_ ws z.m.nm).elim [] (·.ls))).has=false/\(o7 fs ms).pl (tn z.m ((g_ ws z.m.nm).elim [] (·.ls))).name=none/\∀ m',m'∈(o7 fs ms).ms->m'.nm=(tn z.m ((g_ ws z.m.nm).elim [] (·.ls))).name->m'∈(o7 fs ms).ms/\¬ (g_ ws m'.nm).elim False (fun z=>z.ov=true);rw [h1] at hno ⊢;have hzo:z.ov=false:=by cases ho:z.ov;rfl;exact absurd ho hno
   obtain ⟨p1,p2,p3,_⟩:=h4 hzo;have hpn:Ke fs ms (tn z.m z.ls).name=none:=by
    cases hq:Ke fs ms (tn z.m z.ls).name with
    | none=>rfl
    | some p=>unfold Sg at p3;rw [hq] at p3;cases p3
   refine ⟨p1,p2,Oi.2 hpn,fun m' hm' hn'=>⟨hm',?_⟩⟩;obtain ⟨z',k1,rfl,k3,k4⟩:=hfa hm';rw [k1];intro ho;have a1v:z'.m.nm=(tn z.m z.ls).name:=hn';rw [<- a1v] at p3 hpn;unfold Sg at p3;rw [hpn,k1] at p3;have p3:z'.ov=false:=p3;have ho:z'.ov=true:=ho;rw [ho] at p3;cases p3) hh hmm
  exact key
def Mi (p:R2×Bool):R2:=if p.2 then p.1 else ⟨6,⟨#[]⟩⟩
noncomputable def dW (fs:List F2) (ms:List M3) (ws:List W8) (n:ByteArray):Dd:=match g_ ws n with
 | some z=>⟨n,true,z.m,z.ls,Mi (Sg fs ms ws n),z.wt⟩
 | none=>⟨n,false,X6,[],Mi (Sg fs ms ws n),⟨#[]⟩⟩
theorem Am (ht:Y3 fs) (hp:Q6 fs ms) (hok:∀ i,i<ws.length->Tt (o7 fs ms) (ws.getD i I8)) (hm:ws.map (·.m)=ms.map toM) (hb:∀ i,i<ws.length->fF fs ms ws (ws.getD i I8)) (n:ByteArray):Fa (o7 fs ms) n (dW fs ms ws n):=by
 have hE:=qc ht hp;have hl:=uz ht hp hok hm hb n
 cases hf:g_ ws n with
 | none=>
  rw [hf] at hl
  cases hpl:Ke fs ms n with
  | none=>
   obtain ⟨m,hmm,rfl⟩:=(hE.made n).1 (Oi.2 hpl);obtain ⟨z,h1,_⟩:=Zv hE hm rfl hmm;rw [hf] at h1;cases h1
  | some p=>
   refine .inl ⟨Wt p,by show (Ke fs ms n).map Wt=_;rw [hpl];rfl,?_⟩;unfold dW Mi Sg;rw [hf,hpl];rfl
 | some z=>
  obtain ⟨rfl,i,hi,e2⟩:=Qe hf;have PP:=hok i hi;have hzb:=hb i hi;rw [e2] at PP hzb;have hpn:=(hE.made z.m.nm).2 ⟨z.m,PP.mem,rfl⟩;rw [hf] at hl;rcases hl with ⟨h,_⟩ | ⟨m',q1,q2,q3,q4⟩
  · exact absurd hpn h
  obtain rfl:=hE.one _ _ q1 PP.mem q2;refine .inr ⟨z.m,z.ls,PP.mem,rfl,q3,q4,?_⟩;unfold dW Mi Sg;rw [hf,Oi.1 hpn];dsimp only;by_cases ho:z.ov=true
  · obtain ⟨p1,p2⟩:=PP.ov ho
    rw [if_pos ho,if_pos p1,if_pos p1,p2,PP.wt ho]
  obtain ⟨p1,_,_,p4⟩:=hzb (by simpa using ho);rw [if_neg ho,if_neg (by rw [p1];simp),if_neg (by rw [p1];simp),p4]
theorem SB (hp:Q6 fs ms) (hm:ws.map (·.m)=ms.map toM) {i:Nat} (hi:i<ws.length):g_ ws (ws.getD i I8).m.nm=some (ws.getD i I8):=by
 have hl:ws.length=ms.length:=by simpa using congrArg List.length hm
 have hn:∀ j,j<ws.length->(ws.getD j I8).m.nm=(ms.getD j X6).nm:=fun j hj=>by
  have:(ws.map (·.m))[j]?=(ms.map toM)[j]?:=by rw [hm]
  rw [List.getElem?_map,List.getElem?_map,List.getElem?_eq_getElem hj,List.getElem?_eq_getElem O0] at this;have e:ws[j].m=toM ms[j]:=Option.some.inj this;simp only [List.getD,List.getElem?_eq_getElem hj,List.getElem?_eq_getElem (show j<ms.length by omega),Option.getD_some];rw [e];rfl
 refine nu hi (fun j hj e=>?_) rfl;rw [hn j O0,hn i hi] at e;have:=G.Nn (G.mg hp) O0 O0 e;omega
theorem qG (ht:Y3 fs) (hp:Q6 fs ms) (hok:∀ i,i<ws.length->Tt (o7 fs ms) (ws.getD i I8)) (hm:ws.map (·.m)=ms.map toM) (hb:∀ i,i<ws.length->fF fs ms ws (ws.getD i I8)):wJ (o7 fs ms) ws:=by
 have hd:=Am ht hp hok hm hb;refine ⟨fun i hi k hk=>⟨_,hd _,?_⟩,fun n k ⟨d,h1,h2⟩=>?_⟩
 · unfold dW;rw [SB hp hm hi];exact hk
 obtain rfl:=yg (qc ht hp) h1 (hd n);unfold dW at h2
 cases hf:g_ ws n with
 | none=>rw [hf] at h2;simp [L_] at h2
 | some z=>
  rw [hf] at h2;obtain ⟨e1,i,hi,e2⟩:=Qe hf;exact ⟨i,hi,by rw [e2];exact e1,by rw [e2];exact h2⟩
theorem c23 (a:Option Addr) (cap:Nat) (fs:List F2) (ms:List M3) (wa:Option Addr) (wc:Nat) (ws:List W8) (nm:ByteArray) (w:World) (hl:fs.length<=1048576) (hs:∀ i,(fs.getD i L6).le 1048576) (hat:U3 w a fs) (ht:Y3 fs) (hp:Q6 fs ms) (yQ:ws.length<=300) (hws:Uf w wa ws):
 Calls prog 23 #[.agg #[.slice a fs.length cap],.slice wa ws.length wc,.string nm] w fun e w'=>e=.returned (.agg #[.int .i64 (Mi (Sg fs ms ws nm)).code,.string (Mi (Sg fs ms ws nm)).tx])/\Below w.heap.size w w':=by
 have hB0:∀ o1 o2,Below w.heap.size w ((w.alloc o1).alloc o2):=fun o1 o2=>bA.alloc U0 _;have QY:=fun u (hb:Below w.heap.size w u)=>c46 a cap fs ms wa wc ws nm u hl hs (G.T.X0 hat hb) ht hp yQ (Gb hws hb);clear hat hs hws;obtain ⟨kn,HK⟩:∃ k,Hid (Sg fs ms ws nm=k):=⟨_,rfl⟩;rw [HK.out];go_enter func23,ntmps23
 go_wp2_with fail
 refine (QY _ (hB0 _ _)).mono ?_;rintro e w1 ⟨h1,hb1⟩;have hB1:=(hB0 _ _).trans (hb1.mono X3);have hx1:Below (w.heap.size+2) ((w.alloc (.cells #[.slice a fs.length cap] 25)).alloc (.cells #[.int .i64 0,.string ⟨#[]⟩] 31)) w1:=by have h:=hb1;simp at h;exact h
 obtain ⟨t0,⟨z0,z1⟩,y0,y1⟩:=G.QG hx1;have hz1:w.heap.size+1<w1.heap.size:=by have:=hx1.size;simp at this;omega
 clear hb1 QY hx1 hB0;rw [HK.out] at h1;obtain ⟨⟨c,t⟩,b⟩:=kn;have e':e=.returned (.tuple #[.agg #[.int .i64 c,.string t],.bool b]):=h1;subst e';clear h1;cases b
 · go_wp2
   have F:=G.D9 w1 (w.heap.size+1) (.int .i64 6) (.string ⟨#[]⟩) _ _ z0 z1;have qM:Below w.heap.size w ((w1.setCell ⟨w.heap.size+1,0,none⟩ (.int .i64 6)).setCell ⟨w.heap.size+1,1,none⟩ (.string ⟨#[]⟩)):=(hB1.setCell U0 _).setCell U0 _;have YL:w.heap.size+1<((w1.setCell ⟨w.heap.size+1,0,none⟩ (.int .i64 6)).setCell ⟨w.heap.size+1,1,none⟩ (.string ⟨#[]⟩)).heap.size:=by simpa using hz1
   generalize ((w1.setCell ⟨w.heap.size+1,0,none⟩ (.int .i64 6)).setCell ⟨w.heap.size+1,1,none⟩ (.string ⟨#[]⟩))=U at*;have F1:=fun o=>(G.N9 YL 0 o).trans F.1;have F2:=fun o=>(G.N9 YL 1 o).trans F.2;refine bodyPost_ret (v:=.agg #[.int .i64 6,.string ⟨#[]⟩]) (by simp [results,Tryz.results23,go_sem,F1,F2]) rfl ⟨rfl,?_⟩;exact qM.alloc qM.size _
 go_wp2;have F:=G.D9 w1 (w.heap.size+1) (.int .i64 c) (.string t) _ _ z0 z1;have qM:Below w.heap.size w ((w1.setCell ⟨w.heap.size+1,0,none⟩ (.int .i64 c)).setCell ⟨w.heap.size+1,1,none⟩ (.string t)):=(hB1.setCell U0 _).setCell U0 _;have YL:w.heap.size+1<((w1.setCell ⟨w.heap.size+1,0,none⟩ (.int .i64 c)).setCell ⟨w.heap.size+1,1,none⟩ (.string t)).heap.size:=by simpa using hz1
 generalize ((w1.setCell ⟨w.heap.size+1,0,none⟩ (.int .i64 c)).setCell ⟨w.heap.size+1,1,none⟩ (.string t))=U at*;have F1:=fun o=>(G.N9 YL 0 o).trans F.1;have F2:=fun o=>(G.N9 YL 1 o).trans F.2;refine bodyPost_ret (v:=.agg #[.int .i64 c,.string t]) (by simp [results,Tryz.results23,go_sem,F1,F2]) rfl ⟨rfl,?_⟩;exact qM.alloc qM.size _
theorem IK (wa:Option Addr) (wc:Nat) (ws:List W8) (nm:ByteArray) (w:World) (yQ:ws.length<=300) (hws:Uf w wa ws) (hlv:∀ i,i<ws.length->∃ a n c,(ws.getD i I8).lv=.slice a n c):
 Calls prog 50 #[.slice wa ws.length wc,.string nm] w fun e w'=>e=.returned (.tuple #[.agg ((g_ ws nm).getD I8).vs.toArray,.bool (g_ ws nm).isSome])/\Below w.heap.size w w':=by
 obtain ⟨b,off,hc⟩:=Vl hws;have HC:=Q0 hc;have HL:=Q0 hlv;have HN:Hid ((∀ j,j<ws.length->(ws.getD j I8).m.nm≠nm)->g_ ws nm=none):=fun h=>Dq h;have HY:Hid (∀ k,k<ws.length->(∀ j,j<k->(ws.getD j I8).m.nm≠nm)->(ws.getD k I8).m.nm=nm->g_ ws nm=some (ws.getD k I8)):=fun k hk h1 h2=>nu hk h1 h2;obtain ⟨U,hU⟩:∃ U,U=w.alloc (.cells #[.string ⟨#[]⟩,.string ⟨#[]⟩,.string ⟨#[]⟩,.slice none 0 0,.bool false,.int .i64 0,.string ⟨#[]⟩,.string ⟨#[]⟩] 102):=⟨_,rfl⟩;have HU:=Q0 hU;have qM:Below w.heap.size w U:=by rw [hU];exact bA
 have CU:Hid (Cl U w.heap.size 102 z8):=by show Cl _ _ _ _;rw [hU];exact F3 w _ 102
 clear hws hc hlv hU;go_enter func50,ntmps50
 go_wp2_with fail
 go_loopw [6] (fun vi wr=>∃ k:Nat,k<=ws.length/\vi=.int .i64 k/\wr=U/\Hid (∀ j,j<k->(ws.getD j I8).m.nm≠nm)) (fun vi _=>ws.length - (intOf vi).toNat)
 case atStart=>exact ⟨0,Nat.zero_le _,rfl,HU.out.symm,fun j h=>absurd h (Nat.not_lt_zero _)⟩
 obtain ⟨k,hk,rfl,rfl,hdone⟩:=hrel;by_cases hlt:k<ws.length;rotate_left
 · have HR:=Q0 (HN.out (fun j hj=>hdone.out j O0))
   clear HY HN hdone HL
   go_wp2_with (refine Ye rfl 102 _ _ rfl (B:=w.heap.size) (j:=0) rfl (vs:=z8) rfl CU.out (by simp [z8]) (by intro v hv;simp [z8] at hv;rcases hv with rfl | rfl | rfl | rfl | rfl <;> rfl) I1 ?_;intro w5 rR QN;have nP:=Q0 rR;have QM:=Q0 QN;clear rR QN)
   refine bodyPost_ret (Ca (P:=prog) (ty:=102) rfl _ _ w.heap.size _ _ rfl nP.out.blk underlying102 rfl I1) rfl ?_;exact ⟨by rw [HR.out];rfl,qM.trans (QM.out.below Q8)⟩
 rcases HC.out with hss | ⟨ha,hbw,hcell⟩
 · rw [hss] at hlt;exact absurd hlt (Nat.not_lt_zero _)
 subst ha;have g0:=(qM.cell (p:=⟨b,off+k*8,none⟩) hbw).trans (hcell k hlt 0 _ rfl);have HX:Hid (∀ j v,(ws.getD k I8).vs[j]?=some v->wr.cell? ⟨b,off+k*8+j,none⟩=some v):=fun j v e=>(qM.cell (p:=⟨b,off+k*8+j,none⟩) hbw).trans (hcell k hlt j v e);obtain ⟨la,ln,lc,hlv⟩:=HL.out k hlt;have qW:=Q0 (HY.out k hlt hdone.out);have HD:Hid ((ws.getD k I8).m.nm≠nm->∀ j,j<k+1->(ws.getD j I8).m.nm≠nm):=fun h j hj=>by
  rcases Nat.lt_or_ge j k with h1 | h1
  · exact hdone.out j h1
  obtain rfl:j=k:=O0;exact h
 generalize ws.getD k I8=x at*;obtain ⟨⟨xn,xt,xa⟩,xl,xs,xo,xc,xx,xw⟩:=x;dsimp only at*;subst hlv;clear hcell;cases hq:(xn.toList==nm.toList);rotate_left
 · have hnm:xn=nm:=by
    have:=beq_iff_eq.1 hq;rw [ByteArray.toList_eq,ByteArray.toList_eq] at this;exact ByteArray.ext (Array.toList_inj.1 this)
   have HR:=Q0 (qW.out hnm);subst hnm;clear HD qW HY HN hdone HL
   go_wp2_with (first | (refine Ve rfl (Vd 102 _ rfl (B:=b) (j:=off+k*8) (cs:=[.string xn,.string xt,.string xa,.slice la ln lc,.bool xo,.int .i64 xc,.string xx,.string xw]) rfl HX.out underlying102 rfl I1) ?_) | (refine Ye rfl 102 _ _ rfl (B:=w.heap.size) (j:=0) rfl (vs:=[.string xn,.string xt,.string xa,.slice la ln lc,.bool xo,.int .i64 xc,.string xx,.string xw]) rfl CU.out (by simp [z8]) (by intro v hv;simp at hv;rcases hv with rfl | rfl | rfl | rfl | rfl | rfl | rfl | rfl <;> rfl) I1 ?_;intro w5 rR QN;have nP:=Q0 rR;have QM:=Q0 QN;clear rR QN))
   refine bodyPost_ret (Ca (P:=prog) (ty:=102) rfl _ _ w.heap.size _ _ rfl nP.out.blk underlying102 rfl I1) rfl ?_;exact ⟨by rw [HR.out];rfl,qM.trans (QM.out.below Q8)⟩
 have hnm:xn≠nm:=fun e=>by rw [e] at hq;simp at hq
 have aU:=Q0 (HD.out hnm);clear HD qW HY HN hdone HL HX;go_wp2;go_roundw
 case rel=>exact ⟨k+1,O0,by go_num,trivial,aU⟩
 case measure=>simp [intOf];omega
end Go.Proofs.YtdpoaadafcaffaaGreatDoor
namespace Go.Proofs.YtdpoaadafcaffaaGreatDoor
open Go.RowKit
structure De where
 d:Dd
 lv:Value
def Ut:De:=⟨⟨⟨#[]⟩,false,X6,[],⟨0,⟨#[]⟩⟩,⟨#[]⟩⟩,.slice none 0 0⟩
def De.vs (x:De):List Value:=[.string x.d.nm,.bool x.d.md,.string x.d.m.nm,.string x.d.m.tl,.string x.d.m.ar,x.lv,.int .i64 x.d.r.code,.string x.d.r.tx]
def Co (xs:List De):List Value:=xs.flatMap De.vs
theorem Wl (x:De):x.vs.length=8:=rfl
theorem Gv (xs:List De):(Co xs).length=xs.length*8:=by
 induction xs with
 | nil=>rfl
 | cons x r ih=>unfold Co at *;simp only [List.flatMap_cons,List.length_append,List.length_cons,Wl,ih];omega
theorem yA (xs:List De) (x:De):Co (xs++[x])=Co xs++x.vs:=by simp [Co]
theorem jw (xs:List De) (i j:Nat) (h:i<xs.length) (hj:j<8):(Co xs)[i*8+j]?=(xs.getD i Ut).vs[j]?:=by
 induction xs generalizing i with
 | nil=>simp at h
 | cons x r ih=>
  show (x.vs++Co r)[i*8+j]?=_
  cases i with
  | zero=>rw [List.getElem?_append_left (by rw [Wl];omega)];simp
  | succ i=>
   rw [List.getElem?_append_right (by rw [Wl];omega),Wl];have:=ih i (by simpa using h);rw [show (i+1)*8+j - 8=i*8+j by omega];simpa using this
theorem Ip (x:De) (h:x.lv.oneCell'=true):∀ v∈x.vs,v.oneCell'=true:=by
 intro v hv;simp only [De.vs,List.mem_cons,List.not_mem_nil,or_false] at hv;rcases hv with rfl | rfl | rfl | rfl | rfl | rfl | rfl | rfl
 all_goals first | rfl | exact h
structure V_ (base:Nat) (v:Value) (xs:List De) (w:World):Prop where
 row:w.ownsRow base 38 8 v xs.length (Co xs)
 lk:∀ x∈xs,w.ownsRow base 45 4 x.lv x.d.ls.length (I4 x.d.ls)
 ne:xs.Pairwise fun x y=>∀ k,x.lv.ownBlock=some k->y.lv.ownBlock≠some k
theorem X9 {w:World} {base:Nat} {e:TypeId} {size n:Nat} {v:Value} {xs:List Value} (h:w.ownsRow base e size v n xs):∃ a c,v=.slice a n c:=by
 rcases h.2 with ⟨hv,h0⟩ | ⟨g,cap,cur,hv,_⟩
 · exact ⟨none,0,by rw [hv,h0]⟩
 exact ⟨_,_,hv⟩
theorem Ol {w w':World} {base base':Nat} {e e':TypeId} {size size' n n':Nat} {v v':Value} {xs xs':List Value} (h:w.ownsRow base e size v n xs) (k:w.ownsRow base' e' size' v' n' xs') (hne:e≠e') (g:w.grownBy w' v'.ownBlock):w'.ownsRow base e size v n xs:=
 Y0 h fun j hj=>g.block j (h.lt j hj).2 (fun c=>by
  rcases G.own_ne h k hne with h1 | h1
  · rw [h1] at hj;cases hj
  exact h1 (hj.trans c))
theorem V_.below {base:Nat} {v:Value} {xs:List De} {w w':World} (h:V_ base v xs w) (hb:Below w.heap.size w w'):V_ base v xs w':=
 ⟨ownsRow_below h.row hb,fun x hx=>ownsRow_below (h.lk x hx) hb,h.ne⟩
theorem V_.keep {base:Nat} {v:Value} {xs:List De} {w w':World} (h:V_ base v xs w) (hv:∀ k,v.ownBlock=some k->w'.heap[k]?=w.heap[k]?) (hl:∀ x∈xs,∀ k,x.lv.ownBlock=some k->w'.heap[k]?=w.heap[k]?):V_ base v xs w':=
 ⟨Y0 h.row hv,fun x hx=>Y0 (h.lk x hx) (hl x hx),h.ne⟩
theorem V_.snoc {base:Nat} {v v':Value} {xs:List De} {x:De} {w w':World} (h:V_ base v xs w) (hx:w.ownsRow base 45 4 x.lv x.d.ls.length (I4 x.d.ls)) (hn:∀ y∈xs,∀ k,y.lv.ownBlock=some k->x.lv.ownBlock≠some k) (hr:w'.ownsRow base 38 8 v' (xs.length+1) (Co xs++x.vs)) (hg:w.grownBy w' v.ownBlock):V_ base v' (xs++[x]) w':=by
 refine ⟨by rw [yA,List.length_append];exact hr,fun y hy=>?_,List.pairwise_append.2 ⟨h.ne,List.pairwise_singleton _ _,fun y hy z hz=>?_⟩⟩
 · rcases List.mem_append.1 hy with hy | hy
   · exact Ol (h.lk y hy) h.row J3 hg
   rw [List.mem_singleton.1 hy];exact Ol hx h.row J3 hg
 rw [List.mem_singleton.1 hz];exact hn y hy
theorem JB:Inf Tryz.prog 38 8:=Jf I1
end Go.Proofs.YtdpoaadafcaffaaGreatDoor
