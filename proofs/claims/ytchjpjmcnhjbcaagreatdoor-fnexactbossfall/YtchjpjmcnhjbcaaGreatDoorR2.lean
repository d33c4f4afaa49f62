import Derived.Test.YtchjpjmcnhjbcaaGreatDoorpS
import Derived.Test.YtchjpjmcnhjbcaaGreatDoortWF
import Derived.Test.YtchjpjmcnhjbcaaGreatDoorMG
set_option linter.unusedVariables false
set_option maxHeartbeats 8000000
set_option maxRecDepth 100000
namespace Go.Proofs.YtchjpjmcnhjbcaaGreatDoor
open Proofs.Tryz Go.RowKit
theorem YM (w:World):
 Calls prog 95 #[.string ⟨#[]⟩] w fun e w'=>Is4 [] w' e/\Bw w w':=by
 have v:Bw w ((w.alloc (.cells zE.toArray 137)).alloc (.cells zE.toArray 137)):=P6.alloc X4 _;go_enter func95,ntmps95
 go_wp2_with fail
 refine (WO ⟨#[]⟩ 10 _ o6).mono ?_;rintro e j ⟨⟨g2,cp,rfl,s,c⟩,u⟩;have q:((w.alloc (.cells zE.toArray 137)).alloc (.cells zE.toArray 137)).heap.size=w.heap.size+2:=X4;have b:Below (w.heap.size+2) ((w.alloc (.cells zE.toArray 137)).alloc (.cells zE.toArray 137)) j:=u.mono X4;have E:w.heap.size+2<=g2:=by have h:=s;simp at h;omega
 have B:w.heap.size+2<=j.heap.size:=by have h:=b.size;rw [q] at h;exact h
 have x:=((Z7 w zE 137).below P6 X4).below b O0;have o:=((Qa w zE.toArray 137).below P6 X4).below b O0;have y:=D5.below (by have h:=Z7 (w.alloc (.cells zE.toArray 137)) zE 137;simp at h;exact h) b O0;have p:=X6.below (by have h:=Qa (w.alloc (.cells zE.toArray 137)) zE.toArray 137;simp at h;exact h) b O0;have g:=v.trans (b.mono O0);have f:=gm 10 ([]:List UInt8);have m:=ah 10 ([]:List UInt8);clear u s q b;obtain ⟨d,n⟩:∃ d,d=G8 10 ([]:List UInt8):=⟨_,rfl⟩;rw [<- n] at c f m ⊢;have O:=U0 n.symm;have Q:Hid (∀ k,(d.getD k []).length<=16000):=fun k=>G7 (m k) X4;obtain ⟨F,hF⟩:∃ F,F=d.getD 0 []:=⟨_,rfl⟩;have P:=U0 hF.symm;have hFl:F.length<=16000:=by rw [hF];exact Q.out 0
 have H:=f.1;have a4P:d.length<=16001:=by have:=f.2;simp at this;omega
 have L:j.cell? (aA g2 0)=some (vS (J3 F)):=by rw [hF];exact c.2 0 H
 have D:=c.1;clear hF n m f
 go_wp2_with fail
 refine (Es F _ O0 1 O0 O0).mono ?_;rintro e i ⟨⟨g3,cp3,rfl,C,l⟩,a⟩;have A:=a.size;have bR:=D5.below x a O0;have z:=X6.below o a O0;have bM:=D5.below y a O0;have oM:=X6.below p a O0;have hL3:=U0 (lg c a);have J:=X5 g a;have K:i.cell? (aA g3 0)=some (vS (J3 (O1 F))):=l.2 0 (by simp [A_]);have a4F:=l.1;have hrs:=D8 F;have r:J3 (Q9 F 1)=J3 (Y1 F):=rfl;rw [r];clear r a x o y p c g l L v;have I:F=[]:=by rw [<- P.out,<- O.out];rfl
 subst I;have t:J3 (O1 [])=⟨#[]⟩:=rfl;rw [t] at K;clear t;have hMz:w.heap.size+1<i.heap.size:=O0;have hRB:w.heap.size<w.heap.size+1:=O0;have a4G:w.heap.size+1<g3:=O0;have a4Q:w.heap.size+1<g2:=O0;have a4x:g2<i.heap.size:=O0;clear C D E B A;generalize w.heap.size+1=Bm at*;have N:=U0 (KJ (.inl rfl));have g:=J
 go_wp2_with (refine N7 rfl 137 (.tmp 2) (.tmp 122) rfl w.heap.size 0 rfl zE rfl (V9 bR zE rfl) z (by simp [zE,Value.oneCell']) Y2 rfl ?_)
 exact Oj N.out rfl rfl rfl bR g
theorem c95 (s:BY) (w:World) (hs:s.size<=1048576):
 Calls prog 95 #[.string s] w fun e w'=>Is4 s.data.toList w' e/\Bw w w':=by
 have hsl:s.data.toList.length=s.size:=X4;by_cases h0:1<=s.size
 · by_cases a:s.size<=16000
   · by_cases c:O1 ((G8 10 s.data.toList).getD 0 [])=Wj
     · exact aX s w h0 a c
     by_cases h1:O1 ((G8 10 s.data.toList).getD 0 [])=Bd
     · exact EN s w h0 a h1
     by_cases h2:O1 ((G8 10 s.data.toList).getD 0 [])=Jh
     · exact iP s w h0 a h2
     by_cases d:O1 ((G8 10 s.data.toList).getD 0 [])=Zg
     · exact kP s w h0 a d
     by_cases b:O1 ((G8 10 s.data.toList).getD 0 [])=Jg
     · exact PN s w h0 a b
     exact wS s w h0 a ⟨c,h1,h2,d,b⟩
   · have k:Hid (RES s.data.toList Di false):=KJ (.inr O0);have j:Bw w (w.alloc (.cells zE.toArray 137)):=P6;have hA:=Z7 w zE 137;have i:=Qa w zE.toArray 137;have g:=V9 hA zE rfl;have h2:decide (16000<(s.size:Int))=true:=U7;go_enter func95,ntmps95
     go_wp2_with (refine N7 rfl 137 (.tmp 2) (.tmp 18) rfl w.heap.size 0 rfl zE rfl g i (by simp [zE,Value.oneCell']) Y2 rfl ?_)
     exact Oj k.out rfl rfl rfl hA j
 · have f:s=⟨#[]⟩:=by
    apply Df;have:s.data.size=0:=by
     have h:s.size=0:=O0;exact h
    exact Array.eq_empty_of_size_eq_zero this
   subst f;exact YM w
theorem jE {l:List UInt8} {x y:g_} {a b:Bool} (hx:RES l x a) (c:RE l y b) (e:a=false->x=Di) (d:b=false->y=Di):a=b/\x=y:=by
 cases a <;> cases b
 · exact ⟨rfl,by rw [e rfl,d rfl]⟩
 · obtain ⟨h1,h2⟩:=c.1 rfl;exact absurd h2 (hx.2 rfl y h1)
 · obtain ⟨h1,h2,_⟩:=hx.1 rfl;exact absurd h2 (c.2 rfl x h1)
 · obtain ⟨_,_,f⟩:=hx.1 rfl;obtain ⟨h1,h2⟩:=c.1 rfl;exact ⟨rfl,f y h1 h2⟩
theorem a1A (a b:BY) (w:World):
 Calls prog 128 #[.agg #[.string a,.string b],.agg #[.string a,.string b]] w fun e w'=>e=.returned (.bool true)/\Bw w w':=by
 go_enter func128,ntmps128;go_wp2;go_ret;exact ⟨rfl,P6.alloc X4 _⟩
structure MS where
 ep:Int
 fs:List T.F2
 s:St
noncomputable def EM (fs:List T.F2) (x:T.F2):Option (List T.F2):=@dite _ (∃ gs,T.Ym fs x 0 gs) (Classical.propDecidable _) (fun h=>some h.choose) (fun _=>none)
noncomputable def drF (fs:List T.F2) (n:BY):Option (List T.F2):=@dite _ (∃ gs,T.Xh fs n 0 gs) (Classical.propDecidable _) (fun h=>some h.choose) (fun _=>none)
section
variable {fs gs:List T.F2} {x:T.F2} {n:BY} {c:Int}
theorem mQ (h:T.Ym fs x 0 gs):EM fs x=some gs:=by
 have a:∃ gs,T.Ym fs x 0 gs:=⟨gs,h⟩;unfold EM;rw [dif_pos a];exact U6 some (T.rG h a.choose_spec).2
theorem EO (h:T.Ym fs x c gs) (hc:c≠0):EM fs x=none:=by
 unfold EM;exact dif_neg (fun ⟨gs',k⟩=>hc (T.rG k h).1)
theorem KX (h:T.Xh fs n 0 gs):drF fs n=some gs:=by
 have a:∃ gs,T.Xh fs n 0 gs:=⟨gs,h⟩;unfold drF;rw [dif_pos a];exact U6 some (T.JC h a.choose_spec).2
theorem FX (h:T.Xh fs n c gs) (hc:c≠0):drF fs n=none:=by
 unfold drF;exact dif_neg (fun ⟨gs',k⟩=>hc (T.JC k h).1)
end
noncomputable def dn (m:MS) (x:g_):Option MS:=
 if x.kd=1 then (if x.ep=m.ep+1 then some ⟨x.ep,m.fs,m.s⟩ else none)
 else if x.kd=2 then (EM m.fs ⟨x.fn,x.ft⟩).map fun gs=>⟨m.ep,gs,m.s⟩
 else if x.kd=3 then (drF m.fs x.fn).map fun gs=>⟨m.ep,gs,m.s⟩
 else if x.kd=4 then (if (F_ m.s x.km x.ls x.cd x.tx).2=0 then some ⟨m.ep,m.fs,(F_ m.s x.km x.ls x.cd x.tx).1⟩ else none)
 else some ⟨m.ep,m.fs,⟨m.s.wd,[],[]⟩⟩
noncomputable def rn (f:Nat->g_) (m0:MS):Nat->Option MS
 | 0=>some m0
 | k+1=>(rn f m0 k).bind fun m=>dn m (f k)
theorem Dk {f g:Nat->g_} {m0:MS}:∀ (k:Nat),(∀ i,i<k->f i=g i)->rn f m0 k=rn g m0 k
 | 0,_=>rfl
 | k+1,h=>by
  unfold rn;rw [Dk k (fun i hi=>h i O0),h k O0]
theorem zK {f:Nat->g_} {m0 m:MS} {k n:Nat} (hk:k<=n) (h:rn f m0 n=some m):∃ m',rn f m0 k=some m':=by
 induction n generalizing m with
 | zero=>
  obtain rfl:k=0:=O0;exact ⟨m,h⟩
 | succ n ih=>
  by_cases a:k=n+1
  · exact ⟨m,a▸h⟩
  unfold rn at h
  cases hq:rn f m0 n with
  | none=>rw [hq] at h;cases h
  | some m'=>exact ih O0 hq
def eL (es:LB) (i:Nat):List UInt8:=(es.getD i ByteArray.empty).data.toList
def XF (R:List UInt8->g_->Bool->Prop) (es:LB) (m0:MS) (o:Option MS):Prop:=
 (∃ f m,(∀ i,i<es.length->R (eL es i) (f i) true)/\rn f m0 es.length=some m/\o=some m)\/
 (o=none/\∃ k f m,k<es.length/\(∀ i,i<k->R (eL es i) (f i) true)/\rn f m0 k=some m/\(R (eL es k) Di false\/(R (eL es k) (f k) true/\dn m (f k)=none)))
theorem ES {l:List UInt8} {x y:g_} (h:RES l x true) (k:RE l y true):x=y:=(jE h k (fun c=>by cases c) (fun c=>by cases c)).2
theorem UY {es:LB} {m0:MS} {o n:Option MS} (h:XF RES es m0 o) (s:XF RE es m0 n):o=n:=by
 rcases h with ⟨f,m,hf,hm,rfl⟩ | ⟨rfl,k,f,m,r,hf,hm,hx⟩
 · rcases s with ⟨g,m',b,l,rfl⟩ | ⟨rfl,k',g,m',p,b,l,j⟩
   · rw [Dk es.length (fun i d=>ES (hf i d) (b i d)),l] at hm;exact hm.symm
   exfalso;have e:=Dk (m0:=m0) k' (fun i d=>ES (hf i O0) (b i d));rw [l] at e;obtain ⟨q,a⟩:=zK (k:=k'+1) O0 hm;unfold rn at a;rw [e] at a;rcases j with j | ⟨j,hd⟩
   · have:=(jE (hf k' p) j (fun c=>by cases c) (fun _=>rfl)).1;cases this
   rw [ES (hf k' p) j] at a;rw [show ((some m').bind fun m=>dn m (g k'))=dn m' (g k') from rfl,hd] at a;cases a
 rcases s with ⟨g,m',b,l,rfl⟩ | ⟨rfl,_⟩;rotate_left
 · rfl
 exfalso;have e:=Dk (m0:=m0) k (fun i d=>ES (hf i d) (b i O0));rw [hm] at e;obtain ⟨q,a⟩:=zK (k:=k+1) O0 l;unfold rn at a;rw [<- e] at a;rcases hx with hx | ⟨hx,hd⟩
 · have:=(jE hx (b k r) (fun _=>rfl) (fun c=>by cases c)).1;cases this
 rw [<- ES hx (b k r)] at a;rw [show ((some m).bind fun q=>dn q (f k))=dn m (f k) from rfl,hd] at a;cases a
theorem NS {W:Int} {ts:LB} (h:Wh W ts) {k:Nat} (b:k<ts.length) (h0:k≠0):Op.bytesLess (Z5 (ts.getD (k - 1) ByteArray.empty) W).toList (Z5 (ts.getD k ByteArray.empty) W).toList=true:=by
 have a:=lT.1 h (k - 1) k U7 (by simpa using b) O0;simp only [iD] at a;have e1:ts.getD (k - 1) ByteArray.empty=ts[k - 1]:=by simp [List.getD,show k - 1<ts.length by omega]
 have c:ts.getD k ByteArray.empty=ts[k]:=by simp [List.getD,b]
 rw [BJ,e1,c];unfold gT Zq at a;rw [<- ByteArray.toList_eq,<- ByteArray.toList_eq] at a;exact a
theorem iY {ls:List L4} (h:∀ x∈ls,Rh x) {r:Int×ByteArray} (hr:r∈n_ ls):vr r.1 r.2.data.toList=true:=by
 induction ls with
 | nil=>cases hr
 | cons x l ih=>
  unfold n_ at hr;split at hr
  · exact ih (fun y a=>h y (Rf _ a)) hr
  rcases Jd.1 hr with rfl | hr
  · rename_i b;rcases (h x (Zp ..)).2 with ⟨k,_⟩ | ⟨_,k⟩
    · exact absurd k b
    exact k
  exact ih (fun y a=>h y (Rf _ a)) hr
theorem AV {ls:List L4} (h:Uf ls):∀ x∈ls,Rh x:=fun x hx=>by
 obtain ⟨i,a,rfl⟩:=Zd hx;have:=h.2 i a
 rwa [show ls.getD i E_=ls[i] from by simp [List.getD,a]] at this
theorem IJ {s:St} {m:M3} {ls:List L4} {c:Int} {t:BY} (h:Xg s) (a:a_ s.wd s.ts s.rs m ls c t=0):Xg ⟨s.wd,(Y7 s.wd (Jl ls c t) (s.ts,true)).1,Hf s.rs (qh s.wd m ls c t)⟩:=by
 have hr:Zf m ls c t:=by
  unfold a_ at a;split at a
  · cases a
  rename_i j;exact NI.1 j
 have hl:(Y7 s.wd (Jl ls c t) (s.ts,true)).1.length<=300/\(Hf s.rs (qh s.wd m ls c t)).length<=150:=by
  unfold a_ at a;rw [I7 (fun k=>k hr)] at a;split at a
  · cases a
  split at a
  · cases a
  rename_i j;omega
 refine ⟨h.1,⟨hl.1,fun k a=>⟨?_,?_⟩⟩,hl.2,fun i d=>?_⟩
 · have hm:=zu a;have hm:=iy _ _ hm;dsimp only at hm ⊢;generalize (Y7 s.wd (Jl ls c t) (s.ts,true)).1.getD k ByteArray.empty=q at hm ⊢;rcases hm with hm | hm
   · obtain ⟨r,l,rfl⟩:=Pm.1 hm;rcases Yg.1 l with h1 | h1
     · exact ⟨_,_,yD (iY (AV hr.2.1) h1)⟩
     obtain rfl:=Dv.1 h1;exact ⟨_,_,yD hr.2.2⟩
   obtain ⟨i,d,e⟩:=Zd hm;have:=(h.2.1.2 i d).1
   rwa [show s.ts.getD i ByteArray.empty=s.ts[i] from by simp [List.getD,d],e] at this
 · by_cases h0:k=0
   · exact .inl h0
   exact .inr (NS (Oq (Dl h)) a h0)
 have key:∀ x∈Hf s.rs (qh s.wd m ls c t),kG s.wd x:=fun x hx=>by
  have:x∈s.rs\/x=qh s.wd m ls c t:=by
   unfold Hf at hx;split at hx
   · exact .inl hx
   simpa using hx
  rcases this with hx | rfl
  · obtain ⟨i,d,rfl⟩:=Zd hx;have:=h.2.2.2 i d
    rwa [show s.rs.getD i f_=s.rs[i] from by simp [List.getD,d]] at this
  have f:∀ b:BY,((Z5 b s.wd).size:Int)=s.wd:=fun b=>by rw [Lp h.1];have:=h.1;omega
  refine ⟨⟨BG hr.1,f _,by show (ls.map _).length<=15;rw [Vd];exact hr.2.1.1⟩,fun i d=>?_⟩;have g:i<ls.length:=by simpa [qh] using d
  have e:(qh s.wd m ls c t).gs.getD i Vg=Vm s.wd (ls.getD i E_):=by simp [qh,List.getD,g]
  rw [e];exact ⟨(hr.2.1.2 i g).1,f _⟩
 have:=key _ (Bj d)
 rwa [show (Hf s.rs (qh s.wd m ls c t)).getD i f_=(Hf s.rs (qh s.wd m ls c t))[i] from by have d:i<(Hf s.rs (qh s.wd m ls c t)).length:=d;simp [List.getD,d]]
end Go.Proofs.YtchjpjmcnhjbcaaGreatDoor
namespace Go.Proofs.YtchjpjmcnhjbcaaGreatDoor
open Proofs.Tryz Go.RowKit
variable {w w':World} {b0:Nat} {m:MS} {vs:List Value} {fs gs:List T.F2}
structure MOk (m:MS):Prop where
 e0:0<=m.ep
 e1:m.ep<=200
 fl:m.fs.length<=40
 fz:∀ i,(m.fs.getD i T.I8).le 4000
 st:Xg m.s
structure Iw (w:World) (b0:Nat) (m:MS) (vs:List Value):Prop where
 ok:MOk m
 ex:∃ fv tv rv,vs=[.int .i64 0,.int .i64 m.ep,fv,.int .i64 m.s.wd,tv,rv]/\w.ownsRow b0 133 2 fv m.fs.length (T.I4 m.fs)/\Td w b0 m.s.ts m.s.rs tv rv
theorem Iw.keep (h:Iw w b0 m vs) (a:∀ q t,ng w q t->t≠95->w'.heap[q]?=w.heap[q]?):Iw w' b0 m vs:=by
 obtain ⟨fv,tv,rv,h1,h2,c⟩:=h.ex;exact ⟨h.ok,fv,tv,rv,h1,o7 h2 (fun q b=>a q 133 (N8 h2 b) o6),Kq c (fun q t hT ht=>a q t hT (by rcases ht with rfl | rfl | rfl <;> decide))⟩
theorem Iw.below (h:Iw w b0 m vs) (a:Bw w w'):Iw w' b0 m vs:=h.keep (fun q t hT _=>a.block q (Be hT))
theorem Wu {fv:Value} (h:w.ownsRow b0 133 2 fv fs.length (T.I4 fs)):∃ fa fc,fv=.slice fa fs.length fc/\T.G6 w fa fs:=T.Ak.form h
theorem IC {x:T.F2} (h:T.Ym fs x 0 gs) (hf:∀ i,(fs.getD i T.I8).le 4000):gs.length<=40/\∀ i,(gs.getD i T.I8).le 4000:=by
 refine ⟨T.wP h,?_⟩;rcases h with ⟨_,c,_⟩ | ⟨_,_,c,_⟩ | ⟨_,_,_,c,_⟩ | ⟨ht,hx,_,_,k,hk,rfl⟩
 · exact absurd c o6
 · exact absurd c o6
 · exact absurd c o6
 have f:x.le 4000:=by
  unfold T.Q_ Y5 at hx;simp only [V_,Ud] at hx;have h1:=hx.1.1;have h2:=hx.2;simp only [wu] at h1;exact ⟨by show x.nm.data.size<=_;omega,O0⟩
 have g:∀ y∈T.ins (T.without fs x.nm) k x,y.le 4000:=fun y b=>by
  unfold T.ins at b;have hw:∀ z∈T.without fs x.nm,z.le 4000:=fun z d=>by
   obtain ⟨i,a,e⟩:=T.getD_mem (Fv.1 d).1;rw [<- e];exact hf i
  rcases Yg.1 b with h | h
  · exact hw y (Rx h)
  rcases Jd.1 h with rfl | h
  · exact f
  exact hw y (UH h)
 intro i;by_cases a:i<(T.ins (T.without fs x.nm) k x).length
 · rw [show (T.ins (T.without fs x.nm) k x).getD i T.I8=(T.ins (T.without fs x.nm) k x)[i] from by simp [List.getD,a]];exact g _ (Bj a)
 rw [show (T.ins (T.without fs x.nm) k x).getD i T.I8=T.I8 from by simp [List.getD,Yb (Tv a)]];exact ⟨o6,o6⟩
theorem Ky {n:BY} (h:T.Xh fs n 0 gs) (hf:∀ i,(fs.getD i T.I8).le 4000):gs.length<=40/\∀ i,(gs.getD i T.I8).le 4000:=by
 refine ⟨T.WL h,?_⟩;rcases h with ⟨_,c,_⟩ | ⟨_,_,c,_⟩ | ⟨ht,_,_,rfl⟩
 · exact absurd c o6
 · exact absurd c o6
 intro i;by_cases a:i<(T.without fs n).length
 · rw [show (T.without fs n).getD i T.I8=(T.without fs n)[i] from by simp [List.getD,a]];obtain ⟨j,hj,e⟩:=T.getD_mem (Fv.1 (Bj a)).1;rw [<- e];exact hf j
 rw [show (T.without fs n).getD i T.I8=T.I8 from by simp [List.getD,Yb (Tv a)]];exact ⟨o6,o6⟩
theorem QO {l:BY} (h:Y5 l.data.toList=true):l.size<=20:=by
 unfold Y5 at h;simp only [V_,Ud,wu] at h;exact h.1.2
theorem KR {s:St} (h:Xg s):s.le 1048576:=by
 obtain ⟨hw,⟨h1,h2⟩,h3,f⟩:=h;refine ⟨⟨O0,fun i=>?_⟩,O0,fun i=>?_⟩
 · by_cases a:i<s.ts.length
   · obtain ⟨c,t,hr⟩:=(h2 i a).1;obtain ⟨hv,e⟩:=hr.1 rfl;have e:=U6 List.length e;have:=UD hv;simp only [wu,o_] at e;show (s.ts.getD i ByteArray.empty).data.size<=_;omega
   rw [show s.ts.getD i ByteArray.empty=ByteArray.empty from by simp [List.getD,Yb (Tv a)]];decide
 by_cases a:i<s.rs.length;rotate_left
 · rw [show s.rs.getD i f_=f_ from by simp [List.getD,Yb (Tv a)]];exact ⟨o6,o6,(fun k=>⟨by show (0:Nat)<=_;omega,by show (0:Nat)<=_;omega⟩),o6⟩
 obtain ⟨⟨a1,a2,a3⟩,d⟩:=f i a;refine ⟨O0,O0,fun k=>?_,O0⟩;by_cases b:k<(s.rs.getD i f_).gs.length
 · have h5:=QO (d k b).1;have h6:=(d k b).2;exact ⟨O0,O0⟩
 rw [show (s.rs.getD i f_).gs.getD k Vg=Vg from by rw [List.getD,Yb (Tv b)];rfl];exact ⟨by show (0:Nat)<=_;omega,by show (0:Nat)<=_;omega⟩
structure aY (w:World) (M E:List Value) (u:World):Prop where
 b:Bw w u
 hm:Cl u w.heap.size 95 M
 he:Cl u (w.heap.size+1) 137 E
 hr:Cl u (w.heap.size+1+1) 95 [.int .i64 0,.int .i64 0,.slice none 0 0,.int .i64 0,.slice none 0 0,.slice none 0 0]
section
variable {w u u' z:World} {b0 B j:Nat} {m:MS} {x:g_} {vs M E:List Value}
theorem aY.below (h:aY w M E u) (a:Bw u u'):aY w M E u':=⟨h.b.trans (a.mono h.b.size),h.hm.below a h.hm.lt,h.he.below a h.he.lt,h.hr.below a h.hr.lt⟩
theorem aY.put (h:aY w M E u) (j:Nat) (v:Value):aY w (M.set j v) E (u.setCell ⟨w.heap.size,j,none⟩ v):=
 have o:=Ve u w.heap.size j v
 ⟨h.b.trans (o.below H8),h.hm.set j v,h.he.on o O0,h.hr.on o O0⟩
theorem Iw.put (h:Iw u b0 m vs) (hB:Cl u B 95 M) (v:Value):Iw (u.setCell ⟨B,j,none⟩ v) b0 m vs:=h.keep (fun q t hT ht=>(Ve u B j v).block q (fun e=>ht (Y8 (e▸hT) (Cb hB))))
def a1p (w:World) (b0:Nat) (m:MS) (x:g_) (e:Ending) (w':World):Prop:=∃ vs,e=.returned (.tuple #[.agg vs.toArray,.bool (dn m x).isSome])/\vs.length=6/\(∀ v∈vs,v.oneCell'=true)/\(∀ m',dn m x=some m'->Iw w' b0 m' vs)
theorem Ij {a b c d e f:Value} (ha:a.oneCell'=true) (hb:b.oneCell'=true) (hc:c.oneCell'=true) (hd:d.oneCell'=true) (he:e.oneCell'=true) (hf:f.oneCell'=true):∀ v∈[a,b,c,d,e,f],v.oneCell'=true:=fun v hv=>by
 simp at hv;rcases hv with rfl | rfl | rfl | rfl | rfl | rfl <;> assumption
theorem Kr {a:Array Value} {r:Bool} (h:aY w vs E u) (j:Cl z (w.heap.size+1+1) 95 vs) (c:uy (w.heap.size+1+1) u z) (hl:vs.length=6) (h1:∀ v∈vs,v.oneCell'=true) (hd:(dn m x).isSome=r) (i:∀ m',dn m x=some m'->Iw u b0 m' vs) (f:a.getD 4 undef=.pointer (some ⟨w.heap.size+1+1,0,none⟩)) (d:a.getD 5 undef=.bool r):bodyPost prog f96 (fun e w'=>a1p w b0 m x e w'/\Bw w w') .ret ⟨a,[]⟩ z:=
 Y6 (v:=.tuple #[.agg vs.toArray,.bool r]) (U_ rfl a z (w.heap.size+1+1) vs (.bool r) _ f d j.blk underlying95 rfl (by rw [hl];kernel_rfl)) rfl ⟨⟨vs,by rw [hd],hl,h1,fun m' g=>(i m' g).keep (fun q t hT ht=>c.block q (fun e=>ht (Y8 (e▸hT) (Cb h.hr))))⟩,h.b.trans (c.below O0)⟩
end
section
variable {m:MS} {n c:Int} {a b t:BY} {km:M3} {ls:List L4}
theorem FZ:dn m (h_ n)=if n=m.ep+1 then some ⟨n,m.fs,m.s⟩ else none:=rfl
theorem yV:dn m (Ib a b)=(EM m.fs ⟨a,b⟩).map fun gs=>⟨m.ep,gs,m.s⟩:=rfl
theorem ZT:dn m (Nb a)=(drF m.fs a).map fun gs=>⟨m.ep,gs,m.s⟩:=rfl
theorem a1z:dn m (og km ls c t)=if (F_ m.s km ls c t).2=0 then some ⟨m.ep,m.fs,(F_ m.s km ls c t).1⟩ else none:=rfl
theorem a1n:dn m P_=some ⟨m.ep,m.fs,⟨m.s.wd,[],[]⟩⟩:=rfl
end
theorem Gq {W:Int} (h:1<=W/\W<=8):Xg ⟨W,[],[]⟩:=⟨h,⟨by show (0:Nat)<=300;omega,fun k a=>absurd a (J8 _)⟩,by show (0:Nat)<=150;omega,fun k a=>absurd a (J8 _)⟩
theorem XW {s:St} {m:M3} {ls:List L4} {c:Int} {t:BY} (h:Xg s) (a:(F_ s m ls c t).2=0):Xg (F_ s m ls c t).1:=by
 obtain ⟨d,b⟩:=Ux (m:=m) (ls:=ls) (c:=c) (t:=t) h;by_cases hc:a_ s.wd s.ts s.rs m ls c t=0
 · rw [d hc];exact IJ h hc
 rw [b hc] at a;exact absurd a hc
theorem gV {s:St} {m:M3} {ls:List L4} {c:Int} {t:BY} (h:Xg s) (a:(F_ s m ls c t).2=0):(F_ s m ls c t).1.wd=s.wd:=by
 obtain ⟨d,b⟩:=Ux (m:=m) (ls:=ls) (c:=c) (t:=t) h;by_cases hc:a_ s.wd s.ts s.rs m ls c t=0
 · rw [d hc]
 rw [b hc] at a;exact absurd a hc
theorem Iw.parts {w:World} {b0:Nat} {m:MS} {a b c d e:Value} {fv:Value} (h:Iw w b0 m [a,b,fv,c,d,e]):w.ownsRow b0 133 2 fv m.fs.length (T.I4 m.fs)/\Td w b0 m.s.ts m.s.rs d e:=by
 obtain ⟨q1,q2,q3,f,i,g⟩:=h.ex;injection f with _ f;injection f with _ f;injection f with r1 f;injection f with _ f;injection f with r2 f;injection f with r3 f;subst r1 r2 r3;exact ⟨i,g⟩
theorem c96 (b0:Nat) (m:MS) (vs:List Value) (x:g_) (R:OA) (Z:Nat) (w:World) (P:Iw w b0 m vs) (hb0:b0<=w.heap.size) (hx:V8 x) (Y:x.le 1048576) (hlk:o9 w R x.ls):
 Calls prog 96 #[.agg vs.toArray,.agg (x.c R Z).toArray] w fun e w'=>a1p w b0 m x e w'/\Bw w w':=by
 obtain ⟨fv,tv,rv,rfl,hf,hst⟩:=P.ex;obtain ⟨fa,fc,rfl,hat⟩:=Wu hf;have HST:=U0 hst;obtain ⟨ta,tc,rfl⟩:=I_ hst.1;obtain ⟨_,vs0,hr0⟩:=hst;obtain ⟨ra,rc,rfl⟩:=I_ hr0.row;clear hr0 hf;have p:=U0 P;have HLK:=U0 hlk;have HAT:=U0 hat;have e0:=P.ok.e0;have e1:=P.ok.e1;clear P hlk hat;go_enter func96,ntmps96
 go_upto_region 2 with fail
 obtain ⟨W,hW⟩:∃ W:World,W=((w.alloc (.cells #[vO,vI m.ep,vL fa m.fs.length fc,vI m.s.wd,vL ta m.s.ts.length tc,vL ra m.s.rs.length rc] 95)).alloc (.cells (x.c R Z).toArray 137)).alloc (.cells #[vO,vO,vN,vO,vN,vN] 95):=⟨_,rfl⟩;rw [<- hW];have H:Hid (aY w [vO,vI m.ep,vL fa m.fs.length fc,vI m.s.wd,vL ta m.s.ts.length tc,vL ra m.s.rs.length rc] (x.c R Z) W):=by
  rw [hW];exact ⟨(P6.alloc X4 _).alloc U7 _,G9 (G9 (Y4 w [_,_,_,_,_,_] 95) _) _,G9 (Nv X4) _,Nv (xs:=[vO,vO,vN,vO,vN,vN]) X4⟩
 clear hW;have HS:=U0 (p.out.below H.out.b);have N:=H.out.he.cell 0;rcases hx with ⟨n,hn,rfl⟩ | ⟨a,b,h,rfl⟩ | ⟨a,h,rfl⟩ | ⟨km,ls,c,t,h,rfl⟩ | rfl
 · have L:=H.out.he.cell 1;have m1:=H.out.hm.cell 1;have mf:=H.out.hm.opn 1;dsimp only [h_,g_.c,List.getElem?_cons_zero,List.getElem?_cons_succ] at N L m1;by_cases hne:n=m.ep+1;rotate_left
   · have g:Hid (dn m (h_ n)=none):=I7 hne
     go_upto_region 5 with fail
     have f:Hid (∀ v∈([vO,vI m.ep,vL fa m.fs.length fc,vI m.s.wd,vL ta m.s.ts.length tc,vL ra m.s.rs.length rc]:List Value),v.oneCell'=true):=Ij rfl rfl rfl rfl rfl rfl
     go_wp2_with (first | (refine Y9 rfl (X8 95 _ rfl (B:=w.heap.size) (j:=0) (cs:=[vO,vI m.ep,vL fa m.fs.length fc,vI m.s.wd,vL ta m.s.ts.length tc,vL ra m.s.rs.length rc]) rfl (fun q v e=>by rw [L8];exact (H.out.hm.cell q).trans e) underlying95 rfl Y2) ?_) | (refine y9 rfl 95 _ _ rfl (B:=w.heap.size+1+1) (j:=0) rfl (vs:=[vO,vI m.ep,vL fa m.fs.length fc,vI m.s.wd,vL ta m.s.ts.length tc,vL ra m.s.rs.length rc]) rfl H.out.hr H8 f.out Y2 ?_;intro z u r))
     exact Kr H.out u r rfl f.out (by rw [g.out];rfl) (fun m' c=>by rw [g.out] at c;cases c) rfl rfl
   obtain rfl:=hne;have g:Hid (dn m (h_ (m.ep+1))=some ⟨m.ep+1,m.fs,m.s⟩):=by show _=_;exact FZ.trans (X7 rfl)
   have d:=U0 (H.out.put 1 (vI (m.ep+1)));have A:Hid (Iw (W.setCell (aW w 1) (vI (m.ep+1))) b0 ⟨m.ep+1,m.fs,m.s⟩ [vO,vI (m.ep+1),vL fa m.fs.length fc,vI m.s.wd,vL ta m.s.ts.length tc,vL ra m.s.rs.length rc]):=by
    have h:=HS.out.put (j:=1) H.out.hm (vI (m.ep+1));obtain ⟨q5,q6⟩:=h.parts;exact ⟨⟨by show 0<=m.ep+1;omega,hn.2,h.ok.fl,h.ok.fz,h.ok.st⟩,_,_,_,rfl,q5,q6⟩
   go_upto_region 15 with fail
   dsimp only [List.set_cons_succ,List.set_cons_zero] at d;generalize W.setCell (aW w 1) (vI (m.ep+1))=V at*;have f:Hid (∀ v∈([vO,vI (m.ep+1),vL fa m.fs.length fc,vI m.s.wd,vL ta m.s.ts.length tc,vL ra m.s.rs.length rc]:List Value),v.oneCell'=true):=Ij rfl rfl rfl rfl rfl rfl
   go_wp2_with (first | (refine Y9 rfl (X8 95 _ rfl (B:=w.heap.size) (j:=0) (cs:=[vO,vI (m.ep+1),vL fa m.fs.length fc,vI m.s.wd,vL ta m.s.ts.length tc,vL ra m.s.rs.length rc]) rfl (fun q v e=>by rw [L8];exact (d.out.hm.cell q).trans e) underlying95 rfl Y2) ?_) | (refine y9 rfl 95 _ _ rfl (B:=w.heap.size+1+1) (j:=0) rfl (vs:=[vO,vI (m.ep+1),vL fa m.fs.length fc,vI m.s.wd,vL ta m.s.ts.length tc,vL ra m.s.rs.length rc]) rfl d.out.hr H8 f.out Y2 ?_;intro z u r))
   exact Kr d.out u r rfl f.out (by rw [g.out];rfl) (fun m' c=>by rw [g.out] at c;cases c;exact A.out) rfl rfl
 · have L:=H.out.he.cell 2;have k2:=H.out.he.cell 3;have m2:=H.out.hm.cell 2;have HX4:Hid ((⟨a,b⟩:T.F2).le 4000):=⟨by have:=QO h.1;show a.size<=4000;omega,by show b.size<=4000;omega⟩;dsimp only [Ib,g_.c,List.getElem?_cons_zero,List.getElem?_cons_succ] at N L k2 m2
   go_upto_region 8 with fail
   go_wp2_with fail
   refine (T.c143 fa fc m.fs ⟨a,b⟩ W (by have:=p.out.ok.fl;omega) p.out.ok.fz HX4.out (T.J5 HAT.out H.out.b)).mono ?_;rintro e C ⟨⟨v,cd,gs,rfl,ho,_,_,hR⟩,J⟩;obtain ⟨o,l,rfl⟩:=I_ ho;have k:=U0 (H.out.below J);have Q:=k.out.hm.cell 2;have f2:=k.out.hm.opn 2;simp only [@gz Value] at Q
   go_upto_region 15 with fail
   have d:=U0 (k.out.put 2 (vL o gs.length l));dsimp only [List.set_cons_succ,List.set_cons_zero] at d;have A:Hid (cd=0->Iw (C.setCell (aW w 2) (vL o gs.length l)) b0 ⟨m.ep,gs,m.s⟩ [vO,vI m.ep,vL o gs.length l,vI m.s.wd,vL ta m.s.ts.length tc,vL ra m.s.rs.length rc]):=fun hc=>by
    subst hc;have O:=IC hR p.out.ok.fz;have h:Iw C b0 ⟨m.ep,gs,m.s⟩ [vO,vI m.ep,vL o gs.length l,vI m.s.wd,vL ta m.s.ts.length tc,vL ra m.s.rs.length rc]:=⟨⟨e0,e1,O.1,O.2,p.out.ok.st⟩,_,_,_,rfl,H9 ho (G7 hb0 H.out.b.size),(p.out.below k.out.b).parts.2⟩;exact h.put k.out.hm _
   have y:Hid (dn m (Ib a b)=if cd=0 then some ⟨m.ep,gs,m.s⟩ else none):=by
    show _=_;by_cases hc:cd=0
    · subst hc;rw [X7 rfl];rw [yV,mQ hR];rfl
    rw [I7 hc];rw [yV,EO hR hc];rfl
   clear J Q f2 k ho hR;generalize C.setCell (aW w 2) (vL o gs.length l)=V at*;by_cases hc:cd=0
   · subst hc;have g:=U0 (y.out.trans (X7 rfl));clear y;have f:Hid (∀ v∈([vO,vI m.ep,vL o gs.length l,vI m.s.wd,vL ta m.s.ts.length tc,vL ra m.s.rs.length rc]:List Value),v.oneCell'=true):=Ij rfl rfl rfl rfl rfl rfl
     go_wp2_with (first | (refine Y9 rfl (X8 95 _ rfl (B:=w.heap.size) (j:=0) (cs:=[vO,vI m.ep,vL o gs.length l,vI m.s.wd,vL ta m.s.ts.length tc,vL ra m.s.rs.length rc]) rfl (fun q v e=>by rw [L8];exact (d.out.hm.cell q).trans e) underlying95 rfl Y2) ?_) | (refine y9 rfl 95 _ _ rfl (B:=w.heap.size+1+1) (j:=0) rfl (vs:=[vO,vI m.ep,vL o gs.length l,vI m.s.wd,vL ta m.s.ts.length tc,vL ra m.s.rs.length rc]) rfl d.out.hr H8 f.out Y2 ?_;intro z u r))
     exact Kr d.out u r rfl f.out (by rw [g.out];rfl) (fun m' c=>by rw [g.out] at c;cases c;exact A.out X4) rfl rfl
   have hc':(cd==0)=false:=by simpa using hc
   have g:=U0 (y.out.trans (I7 hc));clear y A;have f:Hid (∀ v∈([vO,vI m.ep,vL o gs.length l,vI m.s.wd,vL ta m.s.ts.length tc,vL ra m.s.rs.length rc]:List Value),v.oneCell'=true):=Ij rfl rfl rfl rfl rfl rfl
   go_wp2_with (first | (refine Y9 rfl (X8 95 _ rfl (B:=w.heap.size) (j:=0) (cs:=[vO,vI m.ep,vL o gs.length l,vI m.s.wd,vL ta m.s.ts.length tc,vL ra m.s.rs.length rc]) rfl (fun q v e=>by rw [L8];exact (d.out.hm.cell q).trans e) underlying95 rfl Y2) ?_) | (refine y9 rfl 95 _ _ rfl (B:=w.heap.size+1+1) (j:=0) rfl (vs:=[vO,vI m.ep,vL o gs.length l,vI m.s.wd,vL ta m.s.ts.length tc,vL ra m.s.rs.length rc]) rfl d.out.hr H8 f.out Y2 ?_;intro z u r))
   exact Kr d.out u r rfl f.out (by rw [g.out];rfl) (fun m' c=>by rw [g.out] at c;cases c) rfl rfl
 · have L:=H.out.he.cell 2;have k2:=H.out.he.cell 3;have m2:=H.out.hm.cell 2;have HFZ:Hid (∀ i,(m.fs.getD i T.I8).le 1048576):=fun i=>⟨G7 (p.out.ok.fz i).1 o6,G7 (p.out.ok.fz i).2 o6⟩;dsimp only [Nb,g_.c,List.getElem?_cons_zero,List.getElem?_cons_succ] at N L k2 m2
   go_upto_region 10 with fail
   go_wp2_with fail
   refine (T.a3Z fa fc m.fs a W (by have:=p.out.ok.fl;omega) HFZ.out (T.J5 HAT.out H.out.b)).mono ?_;rintro e C ⟨⟨v,cd,gs,rfl,ho,hR⟩,J⟩;obtain ⟨o,l,rfl⟩:=I_ ho;have k:=U0 (H.out.below J);have Q:=k.out.hm.cell 2;have f2:=k.out.hm.opn 2;simp only [@gz Value] at Q
   go_upto_region 15 with fail
   have d:=U0 (k.out.put 2 (vL o gs.length l));dsimp only [List.set_cons_succ,List.set_cons_zero] at d;have A:Hid (cd=0->Iw (C.setCell (aW w 2) (vL o gs.length l)) b0 ⟨m.ep,gs,m.s⟩ [vO,vI m.ep,vL o gs.length l,vI m.s.wd,vL ta m.s.ts.length tc,vL ra m.s.rs.length rc]):=fun hc=>by
    subst hc;have O:=Ky hR p.out.ok.fz;have h:Iw C b0 ⟨m.ep,gs,m.s⟩ [vO,vI m.ep,vL o gs.length l,vI m.s.wd,vL ta m.s.ts.length tc,vL ra m.s.rs.length rc]:=⟨⟨e0,e1,O.1,O.2,p.out.ok.st⟩,_,_,_,rfl,H9 ho (G7 hb0 H.out.b.size),(p.out.below k.out.b).parts.2⟩;exact h.put k.out.hm _
   have y:Hid (dn m (Nb a)=if cd=0 then some ⟨m.ep,gs,m.s⟩ else none):=by
    show _=_;by_cases hc:cd=0
    · subst hc;rw [X7 rfl];rw [ZT,KX hR];rfl
    rw [I7 hc];rw [ZT,FX hR hc];rfl
   clear J Q f2 k ho hR;generalize C.setCell (aW w 2) (vL o gs.length l)=V at*;by_cases hc:cd=0
   · subst hc;have g:=U0 (y.out.trans (X7 rfl));clear y;have f:Hid (∀ v∈([vO,vI m.ep,vL o gs.length l,vI m.s.wd,vL ta m.s.ts.length tc,vL ra m.s.rs.length rc]:List Value),v.oneCell'=true):=Ij rfl rfl rfl rfl rfl rfl
     go_wp2_with (first | (refine Y9 rfl (X8 95 _ rfl (B:=w.heap.size) (j:=0) (cs:=[vO,vI m.ep,vL o gs.length l,vI m.s.wd,vL ta m.s.ts.length tc,vL ra m.s.rs.length rc]) rfl (fun q v e=>by rw [L8];exact (d.out.hm.cell q).trans e) underlying95 rfl Y2) ?_) | (refine y9 rfl 95 _ _ rfl (B:=w.heap.size+1+1) (j:=0) rfl (vs:=[vO,vI m.ep,vL o gs.length l,vI m.s.wd,vL ta m.s.ts.length tc,vL ra m.s.rs.length rc]) rfl d.out.hr H8 f.out Y2 ?_;intro z u r))
     exact Kr d.out u r rfl f.out (by rw [g.out];rfl) (fun m' c=>by rw [g.out] at c;cases c;exact A.out X4) rfl rfl
   have hc':(cd==0)=false:=by simpa using hc
   have g:=U0 (y.out.trans (I7 hc));clear y A;have f:Hid (∀ v∈([vO,vI m.ep,vL o gs.length l,vI m.s.wd,vL ta m.s.ts.length tc,vL ra m.s.rs.length rc]:List Value),v.oneCell'=true):=Ij rfl rfl rfl rfl rfl rfl
   go_wp2_with (first | (refine Y9 rfl (X8 95 _ rfl (B:=w.heap.size) (j:=0) (cs:=[vO,vI m.ep,vL o gs.length l,vI m.s.wd,vL ta m.s.ts.length tc,vL ra m.s.rs.length rc]) rfl (fun q v e=>by rw [L8];exact (d.out.hm.cell q).trans e) underlying95 rfl Y2) ?_) | (refine y9 rfl 95 _ _ rfl (B:=w.heap.size+1+1) (j:=0) rfl (vs:=[vO,vI m.ep,vL o gs.length l,vI m.s.wd,vL ta m.s.ts.length tc,vL ra m.s.rs.length rc]) rfl d.out.hr H8 f.out Y2 ?_;intro z u r))
   exact Kr d.out u r rfl f.out (by rw [g.out];rfl) (fun m' c=>by rw [g.out] at c;cases c) rfl rfl
 · have k4:=H.out.he.cell 4;have k5:=H.out.he.cell 5;have k6:=H.out.he.cell 6;have k7:=H.out.he.cell 7;have k8:=H.out.he.cell 8;have k9:=H.out.he.cell 9;have X:=H.out.hm.cell 3;have U:=H.out.hm.cell 4;have S:=H.out.hm.cell 5;dsimp only [og,g_.c,List.getElem?_cons_zero,List.getElem?_cons_succ] at N k4 k5 k6 k7 k8 k9 X U S;have hc38:=c145 m.s km ls c t b0 ta ra R tc rc Z W (KR p.out.ok.st) Y.2.2.1 Y.2.2.2.1.1 Y.2.2.2.1.2 Y.2.2.2.2 HS.out.parts.2 (l7 HLK.out H.out.b);have HKS:=U0 (XW (m:=km) (ls:=ls) (c:=c) (t:=t) p.out.ok.st);have HKW:=U0 (gV (m:=km) (ls:=ls) (c:=c) (t:=t) p.out.ok.st);have y:Hid (dn m (og km ls c t)=_):=a1z;unfold Vt at hc38;generalize F_ m.s km ls c t=K at*
   go_upto_region 12 with fail
   go_wp2_with fail
   refine hc38.mono ?_;rintro e C ⟨⟨E,D,I,F,rfl,ho⟩,J⟩;have k:=U0 (H.out.below J);have d3:=k.out.hm.cell 3;have d4:=k.out.hm.cell 4;have d5:=k.out.hm.cell 5;have f3:=k.out.hm.opn 3;have f4:=k.out.hm.opn 4;have f5:=k.out.hm.opn 5;simp only [@gz Value] at d3 d4 d5
   go_upto_region 15 with fail
   have d:=U0 (((k.out.put 3 (vI K.1.wd)).put 4 (vL E K.1.ts.length D)).put 5 (vL I K.1.rs.length F));dsimp only [List.set_cons_succ,List.set_cons_zero] at d;have A:Hid (K.2=0->Iw (((C.setCell (aW w 3) (vI K.1.wd)).setCell (aW w 4) (vL E K.1.ts.length D)).setCell (aW w 5) (vL I K.1.rs.length F)) b0 ⟨m.ep,m.fs,K.1⟩ [vO,vI m.ep,vL fa m.fs.length fc,vI K.1.wd,vL E K.1.ts.length D,vL I K.1.rs.length F]):=fun hc=>by
    have h:Iw C b0 ⟨m.ep,m.fs,K.1⟩ [vO,vI m.ep,vL fa m.fs.length fc,vI K.1.wd,vL E K.1.ts.length D,vL I K.1.rs.length F]:=⟨⟨e0,e1,p.out.ok.fl,p.out.ok.fz,HKS.out hc⟩,_,_,_,rfl,(p.out.below k.out.b).parts.1,xu ho (G7 hb0 H.out.b.size)⟩;exact ((h.put k.out.hm _).put (k.out.put 3 _).hm _).put ((k.out.put 3 _).put 4 _).hm _
   clear J d3 d4 d5 f3 f4 f5 k ho hc38;generalize ((C.setCell (aW w 3) (vI K.1.wd)).setCell (aW w 4) (vL E K.1.ts.length D)).setCell (aW w 5) (vL I K.1.rs.length F)=V at*;obtain ⟨cd,hcd⟩:∃ cd,cd=K.2:=⟨_,rfl⟩;rw [<- hcd] at y A ⊢;clear hcd;by_cases hc:cd=0
   · subst hc;have g:=U0 (y.out.trans (X7 rfl));clear y;have f:Hid (∀ v∈([vO,vI m.ep,vL fa m.fs.length fc,vI K.1.wd,vL E K.1.ts.length D,vL I K.1.rs.length F]:List Value),v.oneCell'=true):=Ij rfl rfl rfl rfl rfl rfl
     go_wp2_with (first | (refine Y9 rfl (X8 95 _ rfl (B:=w.heap.size) (j:=0) (cs:=[vO,vI m.ep,vL fa m.fs.length fc,vI K.1.wd,vL E K.1.ts.length D,vL I K.1.rs.length F]) rfl (fun q v e=>by rw [L8];exact (d.out.hm.cell q).trans e) underlying95 rfl Y2) ?_) | (refine y9 rfl 95 _ _ rfl (B:=w.heap.size+1+1) (j:=0) rfl (vs:=[vO,vI m.ep,vL fa m.fs.length fc,vI K.1.wd,vL E K.1.ts.length D,vL I K.1.rs.length F]) rfl d.out.hr H8 f.out Y2 ?_;intro z u r))
     exact Kr d.out u r rfl f.out (by rw [g.out];rfl) (fun m' c=>by rw [g.out] at c;cases c;exact A.out X4) rfl rfl
   have hc':(cd==0)=false:=by simpa using hc
   have g:=U0 (y.out.trans (I7 hc));clear y A;have f:Hid (∀ v∈([vO,vI m.ep,vL fa m.fs.length fc,vI K.1.wd,vL E K.1.ts.length D,vL I K.1.rs.length F]:List Value),v.oneCell'=true):=Ij rfl rfl rfl rfl rfl rfl
   go_wp2_with (first | (refine Y9 rfl (X8 95 _ rfl (B:=w.heap.size) (j:=0) (cs:=[vO,vI m.ep,vL fa m.fs.length fc,vI K.1.wd,vL E K.1.ts.length D,vL I K.1.rs.length F]) rfl (fun q v e=>by rw [L8];exact (d.out.hm.cell q).trans e) underlying95 rfl Y2) ?_) | (refine y9 rfl 95 _ _ rfl (B:=w.heap.size+1+1) (j:=0) rfl (vs:=[vO,vI m.ep,vL fa m.fs.length fc,vI K.1.wd,vL E K.1.ts.length D,vL I K.1.rs.length F]) rfl d.out.hr H8 f.out Y2 ?_;intro z u r))
   exact Kr d.out u r rfl f.out (by rw [g.out];rfl) (fun m' c=>by rw [g.out] at c;cases c) rfl rfl
 have X:=H.out.hm.cell 3;have U:=H.out.hm.cell 4;have S:=H.out.hm.cell 5;have f3:=H.out.hm.opn 3;have f4:=H.out.hm.opn 4;have f5:=H.out.hm.opn 5;dsimp only [P_,g_.c,List.getElem?_cons_zero,List.getElem?_cons_succ] at N X U S;have g:Hid (dn m P_=_):=a1n
 go_upto_region 15 with fail
 have d:=U0 (((H.out.put 3 (vI m.s.wd)).put 4 vN).put 5 vN);dsimp only [List.set_cons_succ,List.set_cons_zero] at d;have A:Hid (Iw (((W.setCell (aW w 3) (vI m.s.wd)).setCell (aW w 4) vN).setCell (aW w 5) vN) b0 ⟨m.ep,m.fs,⟨m.s.wd,[],[]⟩⟩ [vO,vI m.ep,vL fa m.fs.length fc,vI m.s.wd,vN,vN]):=by
  have h:Iw W b0 ⟨m.ep,m.fs,⟨m.s.wd,[],[]⟩⟩ [vO,vI m.ep,vL fa m.fs.length fc,vI m.s.wd,vN,vN]:=⟨⟨e0,e1,p.out.ok.fl,p.out.ok.fz,Gq p.out.ok.st.1⟩,_,_,_,rfl,HS.out.parts.1,Np _ _⟩;exact ((h.put H.out.hm _).put (H.out.put 3 _).hm _).put ((H.out.put 3 _).put 4 _).hm _
 clear X U S f3 f4 f5;generalize ((W.setCell (aW w 3) (vI m.s.wd)).setCell (aW w 4) vN).setCell (aW w 5) vN=V at*;have f:Hid (∀ v∈([vO,vI m.ep,vL fa m.fs.length fc,vI m.s.wd,vN,vN]:List Value),v.oneCell'=true):=Ij rfl rfl rfl rfl rfl rfl
 go_wp2_with (first | (refine Y9 rfl (X8 95 _ rfl (B:=w.heap.size) (j:=0) (cs:=[vO,vI m.ep,vL fa m.fs.length fc,vI m.s.wd,vN,vN]) rfl (fun q v e=>by rw [L8];exact (d.out.hm.cell q).trans e) underlying95 rfl Y2) ?_) | (refine y9 rfl 95 _ _ rfl (B:=w.heap.size+1+1) (j:=0) rfl (vs:=[vO,vI m.ep,vL fa m.fs.length fc,vI m.s.wd,vN,vN]) rfl d.out.hr H8 f.out Y2 ?_;intro z u r))
 exact Kr d.out u r rfl f.out (by rw [g.out];rfl) (fun m' c=>by rw [g.out] at c;cases c;exact A.out) rfl rfl
