import Derived.Test.YtkdbheidpdjimaaGreatDooreEU
import Derived.Test.YtkdbheidpdjimaaGreatDoorvY
import Derived.Test.YtkdbheidpdjimaaGreatDoorpA
import Derived.Test.YtkdbheidpdjimaaGreatDoorMG
set_option linter.unusedVariables false
set_option maxHeartbeats 8000000
set_option maxRecDepth 100000
namespace Go.Proofs.YtkdbheidpdjimaaGreatDoor
open Proofs.Tryz Go.RowKit
theorem c54 (s:BY) (w:World) (hs:s.size<=1048576):
 Calls prog 54 #[.string s] w fun e w'=>Is4 s.data.toList w' e/\Bw w w':=by
 have hsl:s.data.toList.length=s.size:=I4;by_cases h0:1<=s.size
 · by_cases a:s.size<=16000
   · by_cases c:O1 ((L8 10 s.data.toList).getD 0 [])=jk
     · exact YU s w h0 a c
     by_cases h1:O1 ((L8 10 s.data.toList).getD 0 [])=Le
     · exact UL s w h0 a h1
     by_cases h2:O1 ((L8 10 s.data.toList).getD 0 [])=Jh
     · exact BP s w h0 a h2
     by_cases d:O1 ((L8 10 s.data.toList).getD 0 [])=Lh
     · exact AO s w h0 a d
     by_cases b:O1 ((L8 10 s.data.toList).getD 0 [])=Ug
     · exact QM s w h0 a b
     exact UN s w h0 a ⟨c,h1,h2,d,b⟩
   · have k:Hid (RES s.data.toList Ii false):=QK (.inr O0);have j:Bw w (w.alloc (.cells zE.toArray 105)):=o7;have hA:=I5 w zE 105;have i:=N8 w zE.toArray 105;have g:=d_ hA zE rfl;have h2:decide (16000<(s.size:Int))=true:=U7;go_enter func54,ntmps54
     go_wp2_with (refine J7 rfl 105 (.tmp 2) (.tmp 18) rfl w.heap.size 0 rfl zE rfl g i (by simp [zE,Value.oneCell']) J3 rfl ?_)
     exact Xj k.out rfl rfl rfl hA j
 · have f:s=⟨#[]⟩:=by
    apply qg;have:s.data.size=0:=by
     have h:s.size=0:=O0;exact h
    exact Array.eq_empty_of_size_eq_zero this
   subst f;exact tN w
theorem YE {l:List UInt8} {x y:p_} {a b:Bool} (hx:RES l x a) (c:RE l y b) (e:a=false->x=Ii) (d:b=false->y=Ii):a=b/\x=y:=by
 cases a <;> cases b
 · exact ⟨rfl,by rw [e rfl,d rfl]⟩
 · obtain ⟨h1,h2⟩:=c.1 rfl;exact absurd h2 (hx.2 rfl y h1)
 · obtain ⟨h1,h2,_⟩:=hx.1 rfl;exact absurd h2 (c.2 rfl x h1)
 · obtain ⟨_,_,f⟩:=hx.1 rfl;obtain ⟨h1,h2⟩:=c.1 rfl;exact ⟨rfl,f y h1 h2⟩
theorem ZY (a b:BY) (w:World):
 Calls prog 142 #[.agg #[.string a,.string b],.agg #[.string a,.string b]] w fun e w'=>e=.returned (.bool true)/\Bw w w':=by
 go_enter func142,ntmps142;go_wp2;go_ret;exact ⟨rfl,o7.alloc I4 _⟩
structure MS where
 ep:Int
 fs:List T.F2
 s:St
noncomputable def TL (fs:List T.F2) (x:T.F2):Option (List T.F2):=@dite _ (∃ gs,T.Tn fs x 0 gs) (Classical.propDecidable _) (fun h=>some h.choose) (fun _=>none)
noncomputable def TY (fs:List T.F2) (n:BY):Option (List T.F2):=@dite _ (∃ gs,T.zi fs n 0 gs) (Classical.propDecidable _) (fun h=>some h.choose) (fun _=>none)
section
variable {fs gs:List T.F2} {x:T.F2} {n:BY} {c:Int}
theorem NR (h:T.Tn fs x 0 gs):TL fs x=some gs:=by
 have a:∃ gs,T.Tn fs x 0 gs:=⟨gs,h⟩;unfold TL;rw [dif_pos a];exact P5 some (T.aG h a.choose_spec).2
theorem CO (h:T.Tn fs x c gs) (hc:c≠0):TL fs x=none:=by
 unfold TL;exact dif_neg (fun ⟨gs',k⟩=>hc (T.aG k h).1)
theorem kW (h:T.zi fs n 0 gs):TY fs n=some gs:=by
 have a:∃ gs,T.zi fs n 0 gs:=⟨gs,h⟩;unfold TY;rw [dif_pos a];exact P5 some (T.qB h a.choose_spec).2
theorem WV (h:T.zi fs n c gs) (hc:c≠0):TY fs n=none:=by
 unfold TY;exact dif_neg (fun ⟨gs',k⟩=>hc (T.qB k h).1)
end
noncomputable def dn (m:MS) (x:p_):Option MS:=
 if x.kd=1 then (if x.ep=m.ep+1 then some ⟨x.ep,m.fs,m.s⟩ else none)
 else if x.kd=2 then (TL m.fs ⟨x.fn,x.ft⟩).map fun gs=>⟨m.ep,gs,m.s⟩
 else if x.kd=3 then (TY m.fs x.fn).map fun gs=>⟨m.ep,gs,m.s⟩
 else if x.kd=4 then (if (K_ m.s x.km x.ls x.cd x.tx).2=0 then some ⟨m.ep,m.fs,(K_ m.s x.km x.ls x.cd x.tx).1⟩ else none)
 else some ⟨m.ep,m.fs,⟨m.s.wd,[],[]⟩⟩
noncomputable def rn (f:Nat->p_) (m0:MS):Nat->Option MS
 | 0=>some m0
 | k+1=>(rn f m0 k).bind fun m=>dn m (f k)
theorem Rk {f g:Nat->p_} {m0:MS}:∀ (k:Nat),(∀ i,i<k->f i=g i)->rn f m0 k=rn g m0 k
 | 0,_=>rfl
 | k+1,h=>by
  unfold rn;rw [Rk k (fun i hi=>h i O0),h k O0]
theorem wJ {f:Nat->p_} {m0 m:MS} {k n:Nat} (hk:k<=n) (h:rn f m0 n=some m):∃ m',rn f m0 k=some m':=by
 induction n generalizing m with
 | zero=>
  obtain rfl:k=0:=O0;exact ⟨m,h⟩
 | succ n ih=>
  by_cases a:k=n+1
  · exact ⟨m,a▸h⟩
  unfold rn at h
  cases hq:rn f m0 n with
  | none=>rw [hq] at h;cases h
  | some m'=>exact ih O0 hq
def eL (es:LB) (i:Nat):List UInt8:=(es.getD i ByteArray.empty).data.toList
def dG (R:List UInt8->p_->Bool->Prop) (es:LB) (m0:MS) (o:Option MS):Prop:=
 (∃ f m,(∀ i,i<es.length->R (eL es i) (f i) true)/\rn f m0 es.length=some m/\o=some m)\/
 (o=none/\∃ k f m,k<es.length/\(∀ i,i<k->R (eL es i) (f i) true)/\rn f m0 k=some m/\(R (eL es k) Ii false\/(R (eL es k) (f k) true/\dn m (f k)=none)))
theorem XP {l:List UInt8} {x y:p_} (h:RES l x true) (k:RE l y true):x=y:=(YE h k (fun c=>by cases c) (fun c=>by cases c)).2
theorem OX {es:LB} {m0:MS} {o n:Option MS} (h:dG RES es m0 o) (s:dG RE es m0 n):o=n:=by
 rcases h with ⟨f,m,hf,hm,rfl⟩ | ⟨rfl,k,f,m,r,hf,hm,hx⟩
 · rcases s with ⟨g,m',b,l,rfl⟩ | ⟨rfl,k',g,m',p,b,l,j⟩
   · rw [Rk es.length (fun i d=>XP (hf i d) (b i d)),l] at hm;exact hm.symm
   exfalso;have e:=Rk (m0:=m0) k' (fun i d=>XP (hf i O0) (b i d));rw [l] at e;obtain ⟨q,a⟩:=wJ (k:=k'+1) O0 hm;unfold rn at a;rw [e] at a;rcases j with j | ⟨j,hd⟩
   · have:=(YE (hf k' p) j (fun c=>by cases c) (fun _=>rfl)).1;cases this
   rw [XP (hf k' p) j] at a;rw [show ((some m').bind fun m=>dn m (g k'))=dn m' (g k') from rfl,hd] at a;cases a
 rcases s with ⟨g,m',b,l,rfl⟩ | ⟨rfl,_⟩;rotate_left
 · rfl
 exfalso;have e:=Rk (m0:=m0) k (fun i d=>XP (hf i d) (b i O0));rw [hm] at e;obtain ⟨q,a⟩:=wJ (k:=k+1) O0 l;unfold rn at a;rw [<- e] at a;rcases hx with hx | ⟨hx,hd⟩
 · have:=(YE hx (b k r) (fun _=>rfl) (fun c=>by cases c)).1;cases this
 rw [<- XP hx (b k r)] at a;rw [show ((some m).bind fun q=>dn q (f k))=dn m (f k) from rfl,hd] at a;cases a
theorem kR {W:Int} {ts:LB} (h:Zh W ts) {k:Nat} (b:k<ts.length) (h0:k≠0):Op.bytesLess (E5 (ts.getD (k - 1) ByteArray.empty) W).toList (E5 (ts.getD k ByteArray.empty) W).toList=true:=by
 have a:=List.pairwise_iff_getElem.1 h (k - 1) k U7 (by simpa using b) O0;simp only [dD] at a;have e1:ts.getD (k - 1) ByteArray.empty=ts[k - 1]:=by simp [List.getD,show k - 1<ts.length by omega]
 have c:ts.getD k ByteArray.empty=ts[k]:=by simp [List.getD,b]
 rw [fK,e1,c];unfold gT Aq at a;rw [<- ByteArray.toList_eq,<- ByteArray.toList_eq] at a;exact a
theorem PX {ls:List L4} (h:∀ x∈ls,Vh x) {r:Int×ByteArray} (hr:r∈v_ ls):vr r.1 r.2.data.toList=true:=by
 induction ls with
 | nil=>cases hr
 | cons x l ih=>
  unfold v_ at hr;split at hr
  · exact ih (fun y a=>h y (ug _ a)) hr
  rcases ve.1 hr with rfl | hr
  · rename_i b;rcases (h x (Gq ..)).2 with ⟨k,_⟩ | ⟨_,k⟩
    · exact absurd k b
    exact k
  exact ih (fun y a=>h y (ug _ a)) hr
theorem rU {ls:List L4} (h:jg ls):∀ x∈ls,Vh x:=fun x hx=>by
 obtain ⟨i,a,rfl⟩:=Ee hx;have:=h.2 i a
 rwa [show ls.getD i O_=ls[i] from by simp [List.getD,a]] at this
theorem DK {s:St} {m:M3} {ls:List L4} {c:Int} {t:BY} (h:dh s) (a:l_ s.wd s.ts s.rs m ls c t=0):dh ⟨s.wd,(X6 s.wd (Xh ls c t) (s.ts,true)).1,Vd s.rs (Bg s.wd m ls c t)⟩:=by
 have hr:lg m ls c t:=by
  unfold l_ at a;split at a
  · cases a
  rename_i j;exact KH.1 j
 have hl:(X6 s.wd (Xh ls c t) (s.ts,true)).1.length<=300/\(Vd s.rs (Bg s.wd m ls c t)).length<=150:=by
  unfold l_ at a;rw [A8 (fun k=>k hr)] at a;split at a
  · cases a
  split at a
  · cases a
  rename_i j;omega
 refine ⟨h.1,⟨hl.1,fun k a=>⟨?_,?_⟩⟩,hl.2,fun i d=>?_⟩
 · have hm:=Yu a;have hm:=fA _ _ hm;dsimp only at hm ⊢;generalize (X6 s.wd (Xh ls c t) (s.ts,true)).1.getD k ByteArray.empty=q at hm ⊢;rcases hm with hm | hm
   · obtain ⟨r,l,rfl⟩:=Jl.1 hm;rcases jh.1 l with h1 | h1
     · exact ⟨_,_,sD (PX (rU hr.2.1) h1)⟩
     obtain rfl:=dw.1 h1;exact ⟨_,_,sD hr.2.2⟩
   obtain ⟨i,d,e⟩:=Ee hm;have:=(h.2.1.2 i d).1
   rwa [show s.ts.getD i ByteArray.empty=s.ts[i] from by simp [List.getD,d],e] at this
 · by_cases h0:k=0
   · exact .inl h0
   exact .inr (kR (Oq (Dl h)) a h0)
 have key:∀ x∈Vd s.rs (Bg s.wd m ls c t),lH s.wd x:=fun x hx=>by
  have:x∈s.rs\/x=Bg s.wd m ls c t:=by
   unfold Vd at hx;split at hx
   · exact .inl hx
   simpa using hx
  rcases this with hx | rfl
  · obtain ⟨i,d,rfl⟩:=Ee hx;have:=h.2.2.2 i d
    rwa [show s.rs.getD i g_=s.rs[i] from by simp [List.getD,d]] at this
  have f:∀ b:BY,((E5 b s.wd).size:Int)=s.wd:=fun b=>by rw [Wp h.1];have:=h.1;omega
  refine ⟨⟨tH hr.1,f _,by show (ls.map _).length<=15;rw [Lc];exact hr.2.1.1⟩,fun i d=>?_⟩;have g:i<ls.length:=by simpa [Bg] using d
  have e:(Bg s.wd m ls c t).gs.getD i Yg=ah s.wd (ls.getD i O_):=by simp [Bg,List.getD,g]
  rw [e];exact ⟨(hr.2.1.2 i g).1,f _⟩
 have:=key _ (Bj d)
 rwa [show (Vd s.rs (Bg s.wd m ls c t)).getD i g_=(Vd s.rs (Bg s.wd m ls c t))[i] from by have d:i<(Vd s.rs (Bg s.wd m ls c t)).length:=d;simp [List.getD,d]]
end Go.Proofs.YtkdbheidpdjimaaGreatDoor
namespace Go.Proofs.YtkdbheidpdjimaaGreatDoor
open Proofs.Tryz Go.RowKit
variable {w w':World} {b0:Nat} {m:MS} {vs:List Value} {gs:List T.F2}
structure GZ (m:MS):Prop where
 e0:0<=m.ep
 e1:m.ep<=200
 fl:m.fs.length<=40
 fz:∀ i,(m.fs.getD i T.P8).le 4000
 st:dh m.s
structure Gw (w:World) (b0:Nat) (m:MS) (vs:List Value):Prop where
 ok:GZ m
 ex:∃ fv tv rv,vs=[.int .i64 0,.int .i64 m.ep,fv,.int .i64 m.s.wd,tv,rv]/\w.ownsRow b0 99 2 fv m.fs.length (T.J4 m.fs)/\Jd w b0 m.s.ts m.s.rs tv rv
theorem Gw.keep (h:Gw w b0 m vs) (a:∀ q t,Gf w q t->t≠62->w'.heap[q]?=w.heap[q]?):Gw w' b0 m vs:=by
 obtain ⟨fv,tv,rv,h1,h2,c⟩:=h.ex;exact ⟨h.ok,fv,tv,rv,h1,I7 h2 (fun q b=>a q 99 (Q8 h2 b) O6),Xq c (fun q t hT ht=>a q t hT (by rcases ht with rfl | rfl | rfl <;> decide))⟩
theorem Gw.below (h:Gw w b0 m vs) (a:Bw w w'):Gw w' b0 m vs:=h.keep (fun q t hT _=>a.block q (je hT))
theorem wu {fv:Value} {fs:List T.F2} (h:w.ownsRow b0 99 2 fv fs.length (T.J4 fs)):∃ fa fc,fv=.slice fa fs.length fc/\T.J6 w fa fs:=T.Bl.form h
theorem YB {fs:List T.F2} {x:T.F2} (h:T.Tn fs x 0 gs) (hf:∀ i,(fs.getD i T.P8).le 4000):gs.length<=40/\∀ i,(gs.getD i T.P8).le 4000:=by
 refine ⟨T.FQ h,?_⟩;rcases h with ⟨_,c,_⟩ | ⟨_,_,c,_⟩ | ⟨_,_,_,c,_⟩ | ⟨ht,hx,_,_,k,hk,rfl⟩
 · exact absurd c O6
 · exact absurd c O6
 · exact absurd c O6
 have f:x.le 4000:=by
  unfold T.V_ o6 at hx;simp only [Fa,Fe] at hx;have h1:=hx.1.1;have h2:=hx.2;simp only [Xt] at h1;exact ⟨by show x.nm.data.size<=_;omega,O0⟩
 have g:∀ y∈T.ins (T.without fs x.nm) k x,y.le 4000:=fun y b=>by
  unfold T.ins at b;have hw:∀ z∈T.without fs x.nm,z.le 4000:=fun z d=>by
   obtain ⟨i,a,e⟩:=T.getD_mem (Pv.1 d).1;rw [<- e];exact hf i
  rcases jh.1 b with h | h
  · exact hw y (qy h)
  rcases ve.1 h with rfl | h
  · exact f
  exact hw y (RI h)
 intro i;by_cases a:i<(T.ins (T.without fs x.nm) k x).length
 · rw [show (T.ins (T.without fs x.nm) k x).getD i T.P8=(T.ins (T.without fs x.nm) k x)[i] from by simp [List.getD,a]];exact g _ (Bj a)
 rw [show (T.ins (T.without fs x.nm) k x).getD i T.P8=T.P8 from by simp [List.getD,Ec (Jv a)]];exact ⟨O6,O6⟩
theorem Iy {fs:List T.F2} {n:BY} (h:T.zi fs n 0 gs) (hf:∀ i,(fs.getD i T.P8).le 4000):gs.length<=40/\∀ i,(gs.getD i T.P8).le 4000:=by
 refine ⟨T.KN h,?_⟩;rcases h with ⟨_,c,_⟩ | ⟨_,_,c,_⟩ | ⟨ht,_,_,rfl⟩
 · exact absurd c O6
 · exact absurd c O6
 intro i;by_cases a:i<(T.without fs n).length
 · rw [show (T.without fs n).getD i T.P8=(T.without fs n)[i] from by simp [List.getD,a]];obtain ⟨j,hj,e⟩:=T.getD_mem (Pv.1 (Bj a)).1;rw [<- e];exact hf j
 rw [show (T.without fs n).getD i T.P8=T.P8 from by simp [List.getD,Ec (Jv a)]];exact ⟨O6,O6⟩
theorem fQ {l:BY} (h:o6 l.data.toList=true):l.size<=20:=by
 unfold o6 at h;simp only [Fa,Fe,Xt] at h;exact h.1.2
theorem gQ {s:St} (h:dh s):s.le 1048576:=by
 obtain ⟨hw,⟨h1,h2⟩,h3,f⟩:=h;refine ⟨⟨O0,fun i=>?_⟩,O0,fun i=>?_⟩
 · by_cases a:i<s.ts.length
   · obtain ⟨c,t,hr⟩:=(h2 i a).1;obtain ⟨hv,e⟩:=hr.1 rfl;have e:=P5 List.length e;have:=PD hv;simp only [Xt,A_] at e;show (s.ts.getD i ByteArray.empty).data.size<=_;omega
   rw [show s.ts.getD i ByteArray.empty=ByteArray.empty from by simp [List.getD,Ec (Jv a)]];decide
 by_cases a:i<s.rs.length;rotate_left
 · rw [show s.rs.getD i g_=g_ from by simp [List.getD,Ec (Jv a)]];exact ⟨O6,O6,(fun k=>⟨by show (0:Nat)<=_;omega,by show (0:Nat)<=_;omega⟩),O6⟩
 obtain ⟨⟨a1,a2,a3⟩,d⟩:=f i a;refine ⟨O0,O0,fun k=>?_,O0⟩;by_cases b:k<(s.rs.getD i g_).gs.length
 · have h5:=fQ (d k b).1;have h6:=(d k b).2;exact ⟨O0,O0⟩
 rw [show (s.rs.getD i g_).gs.getD k Yg=Yg from by rw [List.getD,Ec (Jv b)];rfl];exact ⟨by show (0:Nat)<=_;omega,by show (0:Nat)<=_;omega⟩
structure LW (w:World) (M E:List Value) (u:World):Prop where
 b:Bw w u
 hm:Cl u w.heap.size 62 M
 he:Cl u (w.heap.size+1) 105 E
 hr:Cl u (w.heap.size+1+1) 62 [.int .i64 0,.int .i64 0,.slice none 0 0,.int .i64 0,.slice none 0 0,.slice none 0 0]
section
variable {w u u' z:World} {b0 B j:Nat} {m:MS} {x:p_} {vs M E:List Value}
theorem LW.below (h:LW w M E u) (a:Bw u u'):LW w M E u':=⟨h.b.trans (a.mono h.b.size),h.hm.below a h.hm.lt,h.he.below a h.he.lt,h.hr.below a h.hr.lt⟩
theorem LW.put (h:LW w M E u) (j:Nat) (v:Value):LW w (M.set j v) E (u.setCell ⟨w.heap.size,j,none⟩ v):=
 have o:=uh u w.heap.size j v
 ⟨h.b.trans (o.below x9),h.hm.set j v,h.he.on o O0,h.hr.on o O0⟩
theorem Gw.put (h:Gw u b0 m vs) (hB:Cl u B 62 M) (v:Value):Gw (u.setCell ⟨B,j,none⟩ v) b0 m vs:=h.keep (fun q t hT ht=>(uh u B j v).block q (fun e=>ht (X8 (e▸hT) (Qb hB))))
def a0f (w:World) (b0:Nat) (m:MS) (x:p_) (e:Ending) (w':World):Prop:=∃ vs,e=.returned (.tuple #[.agg vs.toArray,.bool (dn m x).isSome])/\vs.length=6/\(∀ v∈vs,v.oneCell'=true)/\(∀ m',dn m x=some m'->Gw w' b0 m' vs)
theorem Cj {a b c d e f:Value} (ha:a.oneCell'=true) (hb:b.oneCell'=true) (hc:c.oneCell'=true) (hd:d.oneCell'=true) (he:e.oneCell'=true) (hf:f.oneCell'=true):∀ v∈[a,b,c,d,e,f],v.oneCell'=true:=fun v hv=>by
 simp at hv;rcases hv with rfl | rfl | rfl | rfl | rfl | rfl <;> assumption
theorem Hr {a:Array Value} {r:Bool} (h:LW w vs E u) (j:Cl z (w.heap.size+1+1) 62 vs) (c:vF (w.heap.size+1+1) u z) (hl:vs.length=6) (h1:∀ v∈vs,v.oneCell'=true) (hd:(dn m x).isSome=r) (i:∀ m',dn m x=some m'->Gw u b0 m' vs) (f:a.getD 4 undef=.pointer (some ⟨w.heap.size+1+1,0,none⟩)) (d:a.getD 5 undef=.bool r):bodyPost prog f55 (fun e w'=>a0f w b0 m x e w'/\Bw w w') .ret ⟨a,[]⟩ z:=
 P7 (v:=.tuple #[.agg vs.toArray,.bool r]) (Ea rfl a z (w.heap.size+1+1) vs (.bool r) _ f d j.blk underlying62 rfl (by rw [hl];kernel_rfl)) rfl ⟨⟨vs,by rw [hd],hl,h1,fun m' g=>(i m' g).keep (fun q t hT ht=>c.block q (fun e=>ht (X8 (e▸hT) (Qb h.hr))))⟩,h.b.trans (c.below O0)⟩
end
section
variable {m:MS} {n c:Int} {a b t:BY} {km:M3} {ls:List L4}
theorem zX:dn m (r_ n)=if n=m.ep+1 then some ⟨n,m.fs,m.s⟩ else none:=rfl
theorem OU:dn m (Vb a b)=(TL m.fs ⟨a,b⟩).map fun gs=>⟨m.ep,gs,m.s⟩:=rfl
theorem nV:dn m (Xb a)=(TY m.fs a).map fun gs=>⟨m.ep,gs,m.s⟩:=rfl
theorem rZ:dn m (Ag km ls c t)=if (K_ m.s km ls c t).2=0 then some ⟨m.ep,m.fs,(K_ m.s km ls c t).1⟩ else none:=rfl
theorem wZ:dn m U_=some ⟨m.ep,m.fs,⟨m.s.wd,[],[]⟩⟩:=rfl
end
theorem Yq {W:Int} (h:1<=W/\W<=8):dh ⟨W,[],[]⟩:=⟨h,⟨by show (0:Nat)<=300;omega,fun k a=>absurd a (o9 _)⟩,by show (0:Nat)<=150;omega,fun k a=>absurd a (o9 _)⟩
theorem ES {s:St} {m:M3} {ls:List L4} {c:Int} {t:BY} (h:dh s) (a:(K_ s m ls c t).2=0):dh (K_ s m ls c t).1:=by
 obtain ⟨d,b⟩:=Uz (m:=m) (ls:=ls) (c:=c) (t:=t) h;by_cases hc:l_ s.wd s.ts s.rs m ls c t=0
 · rw [d hc];exact DK h hc
 rw [b hc] at a;exact absurd a hc
theorem UU {s:St} {m:M3} {ls:List L4} {c:Int} {t:BY} (h:dh s) (a:(K_ s m ls c t).2=0):(K_ s m ls c t).1.wd=s.wd:=by
 obtain ⟨d,b⟩:=Uz (m:=m) (ls:=ls) (c:=c) (t:=t) h;by_cases hc:l_ s.wd s.ts s.rs m ls c t=0
 · rw [d hc]
 rw [b hc] at a;exact absurd a hc
theorem Gw.parts {w:World} {b0:Nat} {m:MS} {a b c d e:Value} {fv:Value} (h:Gw w b0 m [a,b,fv,c,d,e]):w.ownsRow b0 99 2 fv m.fs.length (T.J4 m.fs)/\Jd w b0 m.s.ts m.s.rs d e:=by
 obtain ⟨q1,q2,q3,f,i,g⟩:=h.ex;injection f with _ f;injection f with _ f;injection f with r1 f;injection f with _ f;injection f with r2 f;injection f with r3 f;subst r1 r2 r3;exact ⟨i,g⟩
theorem c55 (b0:Nat) (m:MS) (vs:List Value) (x:p_) (R:OA) (Z:Nat) (w:World) (P:Gw w b0 m vs) (hb0:b0<=w.heap.size) (hx:U8 x) (Y:x.le 1048576) (hlk:I9 w R x.ls):
 Calls prog 55 #[.agg vs.toArray,.agg (x.c R Z).toArray] w fun e w'=>a0f w b0 m x e w'/\Bw w w':=by
 obtain ⟨fv,tv,rv,rfl,hf,hst⟩:=P.ex;obtain ⟨fa,fc,rfl,hat⟩:=wu hf;have HST:=U0 hst;obtain ⟨ta,tc,rfl⟩:=Za hst.1;obtain ⟨_,vs0,hr0⟩:=hst;obtain ⟨ra,rc,rfl⟩:=Za hr0.row;clear hr0 hf;have p:=U0 P;have HLK:=U0 hlk;have HAT:=U0 hat;have e0:=P.ok.e0;have e1:=P.ok.e1;clear P hlk hat;go_enter func55,ntmps55
 go_upto_region 2 with fail
 obtain ⟨W,hW⟩:∃ W:World,W=((w.alloc (.cells #[vO,vI m.ep,vL fa m.fs.length fc,vI m.s.wd,vL ta m.s.ts.length tc,vL ra m.s.rs.length rc] 62)).alloc (.cells (x.c R Z).toArray 105)).alloc (.cells #[vO,vO,vN,vO,vN,vN] 62):=⟨_,rfl⟩;rw [<- hW];have H:Hid (LW w [vO,vI m.ep,vL fa m.fs.length fc,vI m.s.wd,vL ta m.s.ts.length tc,vL ra m.s.rs.length rc] (x.c R Z) W):=by
  rw [hW];exact ⟨(o7.alloc I4 _).alloc U7 _,Oa (Oa (G6 w [_,_,_,_,_,_] 62) _) _,Oa (Nv I4) _,Nv (xs:=[vO,vO,vN,vO,vN,vN]) I4⟩
 clear hW;have HS:=U0 (p.out.below H.out.b);have N:=H.out.he.cell 0;rcases hx with ⟨n,hn,rfl⟩ | ⟨a,b,h,rfl⟩ | ⟨a,h,rfl⟩ | ⟨km,ls,c,t,h,rfl⟩ | rfl
 · have L:=H.out.he.cell 1;have m1:=H.out.hm.cell 1;have mf:=H.out.hm.opn 1;dsimp only [r_,p_.c,List.getElem?_cons_zero,List.getElem?_cons_succ] at N L m1;by_cases hne:n=m.ep+1;rotate_left
   · have g:Hid (dn m (r_ n)=none):=A8 hne
     go_upto_region 5 with fail
     have f:Hid (∀ v∈([vO,vI m.ep,vL fa m.fs.length fc,vI m.s.wd,vL ta m.s.ts.length tc,vL ra m.s.rs.length rc]:List Value),v.oneCell'=true):=Cj rfl rfl rfl rfl rfl rfl
     go_wp2_with (first | (refine Z9 rfl (Y8 62 _ rfl (B:=w.heap.size) (j:=0) (cs:=[vO,vI m.ep,vL fa m.fs.length fc,vI m.s.wd,vL ta m.s.ts.length tc,vL ra m.s.rs.length rc]) rfl (fun q v e=>by rw [E8];exact (H.out.hm.cell q).trans e) underlying62 rfl J3) ?_) | (refine Z8 rfl 62 _ _ rfl (B:=w.heap.size+1+1) (j:=0) rfl (vs:=[vO,vI m.ep,vL fa m.fs.length fc,vI m.s.wd,vL ta m.s.ts.length tc,vL ra m.s.rs.length rc]) rfl H.out.hr x9 f.out J3 ?_;intro z u r))
     exact Hr H.out u r rfl f.out (by rw [g.out];rfl) (fun m' c=>by rw [g.out] at c;cases c) rfl rfl
   obtain rfl:=hne;have g:Hid (dn m (r_ (m.ep+1))=some ⟨m.ep+1,m.fs,m.s⟩):=by show _=_;exact zX.trans (G8 rfl)
   have d:=U0 (H.out.put 1 (vI (m.ep+1)));have A:Hid (Gw (W.setCell (aW w 1) (vI (m.ep+1))) b0 ⟨m.ep+1,m.fs,m.s⟩ [vO,vI (m.ep+1),vL fa m.fs.length fc,vI m.s.wd,vL ta m.s.ts.length tc,vL ra m.s.rs.length rc]):=by
    have h:=HS.out.put (j:=1) H.out.hm (vI (m.ep+1));obtain ⟨q5,q6⟩:=h.parts;exact ⟨⟨by show 0<=m.ep+1;omega,hn.2,h.ok.fl,h.ok.fz,h.ok.st⟩,_,_,_,rfl,q5,q6⟩
   go_upto_region 15 with fail
   dsimp only [List.set_cons_succ,List.set_cons_zero] at d;generalize W.setCell (aW w 1) (vI (m.ep+1))=V at*;have f:Hid (∀ v∈([vO,vI (m.ep+1),vL fa m.fs.length fc,vI m.s.wd,vL ta m.s.ts.length tc,vL ra m.s.rs.length rc]:List Value),v.oneCell'=true):=Cj rfl rfl rfl rfl rfl rfl
   go_wp2_with (first | (refine Z9 rfl (Y8 62 _ rfl (B:=w.heap.size) (j:=0) (cs:=[vO,vI (m.ep+1),vL fa m.fs.length fc,vI m.s.wd,vL ta m.s.ts.length tc,vL ra m.s.rs.length rc]) rfl (fun q v e=>by rw [E8];exact (d.out.hm.cell q).trans e) underlying62 rfl J3) ?_) | (refine Z8 rfl 62 _ _ rfl (B:=w.heap.size+1+1) (j:=0) rfl (vs:=[vO,vI (m.ep+1),vL fa m.fs.length fc,vI m.s.wd,vL ta m.s.ts.length tc,vL ra m.s.rs.length rc]) rfl d.out.hr x9 f.out J3 ?_;intro z u r))
   exact Hr d.out u r rfl f.out (by rw [g.out];rfl) (fun m' c=>by rw [g.out] at c;cases c;exact A.out) rfl rfl
 · have L:=H.out.he.cell 2;have k2:=H.out.he.cell 3;have m2:=H.out.hm.cell 2;have HX4:Hid ((⟨a,b⟩:T.F2).le 4000):=⟨by have:=fQ h.1;show a.size<=4000;omega,by show b.size<=4000;omega⟩;dsimp only [Vb,p_.c,List.getElem?_cons_zero,List.getElem?_cons_succ] at N L k2 m2
   go_upto_region 8 with fail
   go_wp2_with fail
   refine (T.a0W fa fc m.fs ⟨a,b⟩ W (by have:=p.out.ok.fl;omega) p.out.ok.fz HX4.out (T.U5 HAT.out H.out.b)).mono ?_;rintro e C ⟨⟨v,cd,gs,rfl,ho,_,_,hR⟩,J⟩;obtain ⟨o,l,rfl⟩:=Za ho;have k:=U0 (H.out.below J);have Q:=k.out.hm.cell 2;have f2:=k.out.hm.opn 2;simp only [@gz Value] at Q
   go_upto_region 15 with fail
   have d:=U0 (k.out.put 2 (vL o gs.length l));dsimp only [List.set_cons_succ,List.set_cons_zero] at d;have A:Hid (cd=0->Gw (C.setCell (aW w 2) (vL o gs.length l)) b0 ⟨m.ep,gs,m.s⟩ [vO,vI m.ep,vL o gs.length l,vI m.s.wd,vL ta m.s.ts.length tc,vL ra m.s.rs.length rc]):=fun hc=>by
    subst hc;have O:=YB hR p.out.ok.fz;have h:Gw C b0 ⟨m.ep,gs,m.s⟩ [vO,vI m.ep,vL o gs.length l,vI m.s.wd,vL ta m.s.ts.length tc,vL ra m.s.rs.length rc]:=⟨⟨e0,e1,O.1,O.2,p.out.ok.st⟩,_,_,_,rfl,H9 ho (Q7 hb0 H.out.b.size),(p.out.below k.out.b).parts.2⟩;exact h.put k.out.hm _
   have y:Hid (dn m (Vb a b)=if cd=0 then some ⟨m.ep,gs,m.s⟩ else none):=by
    show _=_;by_cases hc:cd=0
    · subst hc;rw [G8 rfl];rw [OU,NR hR];rfl
    rw [A8 hc];rw [OU,CO hR hc];rfl
   clear J Q f2 k ho hR;generalize C.setCell (aW w 2) (vL o gs.length l)=V at*;by_cases hc:cd=0
   · subst hc;have g:=U0 (y.out.trans (G8 rfl));clear y;have f:Hid (∀ v∈([vO,vI m.ep,vL o gs.length l,vI m.s.wd,vL ta m.s.ts.length tc,vL ra m.s.rs.length rc]:List Value),v.oneCell'=true):=Cj rfl rfl rfl rfl rfl rfl
     go_wp2_with (first | (refine Z9 rfl (Y8 62 _ rfl (B:=w.heap.size) (j:=0) (cs:=[vO,vI m.ep,vL o gs.length l,vI m.s.wd,vL ta m.s.ts.length tc,vL ra m.s.rs.length rc]) rfl (fun q v e=>by rw [E8];exact (d.out.hm.cell q).trans e) underlying62 rfl J3) ?_) | (refine Z8 rfl 62 _ _ rfl (B:=w.heap.size+1+1) (j:=0) rfl (vs:=[vO,vI m.ep,vL o gs.length l,vI m.s.wd,vL ta m.s.ts.length tc,vL ra m.s.rs.length rc]) rfl d.out.hr x9 f.out J3 ?_;intro z u r))
     exact Hr d.out u r rfl f.out (by rw [g.out];rfl) (fun m' c=>by rw [g.out] at c;cases c;exact A.out I4) rfl rfl
   have hc':(cd==0)=false:=by simpa using hc
   have g:=U0 (y.out.trans (A8 hc));clear y A;have f:Hid (∀ v∈([vO,vI m.ep,vL o gs.length l,vI m.s.wd,vL ta m.s.ts.length tc,vL ra m.s.rs.length rc]:List Value),v.oneCell'=true):=Cj rfl rfl rfl rfl rfl rfl
   go_wp2_with (first | (refine Z9 rfl (Y8 62 _ rfl (B:=w.heap.size) (j:=0) (cs:=[vO,vI m.ep,vL o gs.length l,vI m.s.wd,vL ta m.s.ts.length tc,vL ra m.s.rs.length rc]) rfl (fun q v e=>by rw [E8];exact (d.out.hm.cell q).trans e) underlying62 rfl J3) ?_) | (refine Z8 rfl 62 _ _ rfl (B:=w.heap.size+1+1) (j:=0) rfl (vs:=[vO,vI m.ep,vL o gs.length l,vI m.s.wd,vL ta m.s.ts.length tc,vL ra m.s.rs.length rc]) rfl d.out.hr x9 f.out J3 ?_;intro z u r))
   exact Hr d.out u r rfl f.out (by rw [g.out];rfl) (fun m' c=>by rw [g.out] at c;cases c) rfl rfl
 · have L:=H.out.he.cell 2;have k2:=H.out.he.cell 3;have m2:=H.out.hm.cell 2;have HFZ:Hid (∀ i,(m.fs.getD i T.P8).le 1048576):=fun i=>⟨Q7 (p.out.ok.fz i).1 O6,Q7 (p.out.ok.fz i).2 O6⟩;dsimp only [Xb,p_.c,List.getElem?_cons_zero,List.getElem?_cons_succ] at N L k2 m2
   go_upto_region 10 with fail
   go_wp2_with fail
   refine (T.a2b fa fc m.fs a W (by have:=p.out.ok.fl;omega) HFZ.out (T.U5 HAT.out H.out.b)).mono ?_;rintro e C ⟨⟨v,cd,gs,rfl,ho,hR⟩,J⟩;obtain ⟨o,l,rfl⟩:=Za ho;have k:=U0 (H.out.below J);have Q:=k.out.hm.cell 2;have f2:=k.out.hm.opn 2;simp only [@gz Value] at Q
   go_upto_region 15 with fail
   have d:=U0 (k.out.put 2 (vL o gs.length l));dsimp only [List.set_cons_succ,List.set_cons_zero] at d;have A:Hid (cd=0->Gw (C.setCell (aW w 2) (vL o gs.length l)) b0 ⟨m.ep,gs,m.s⟩ [vO,vI m.ep,vL o gs.length l,vI m.s.wd,vL ta m.s.ts.length tc,vL ra m.s.rs.length rc]):=fun hc=>by
    subst hc;have O:=Iy hR p.out.ok.fz;have h:Gw C b0 ⟨m.ep,gs,m.s⟩ [vO,vI m.ep,vL o gs.length l,vI m.s.wd,vL ta m.s.ts.length tc,vL ra m.s.rs.length rc]:=⟨⟨e0,e1,O.1,O.2,p.out.ok.st⟩,_,_,_,rfl,H9 ho (Q7 hb0 H.out.b.size),(p.out.below k.out.b).parts.2⟩;exact h.put k.out.hm _
   have y:Hid (dn m (Xb a)=if cd=0 then some ⟨m.ep,gs,m.s⟩ else none):=by
    show _=_;by_cases hc:cd=0
    · subst hc;rw [G8 rfl];rw [nV,kW hR];rfl
    rw [A8 hc];rw [nV,WV hR hc];rfl
   clear J Q f2 k ho hR;generalize C.setCell (aW w 2) (vL o gs.length l)=V at*;by_cases hc:cd=0
   · subst hc;have g:=U0 (y.out.trans (G8 rfl));clear y;have f:Hid (∀ v∈([vO,vI m.ep,vL o gs.length l,vI m.s.wd,vL ta m.s.ts.length tc,vL ra m.s.rs.length rc]:List Value),v.oneCell'=true):=Cj rfl rfl rfl rfl rfl rfl
     go_wp2_with (first | (refine Z9 rfl (Y8 62 _ rfl (B:=w.heap.size) (j:=0) (cs:=[vO,vI m.ep,vL o gs.length l,vI m.s.wd,vL ta m.s.ts.length tc,vL ra m.s.rs.length rc]) rfl (fun q v e=>by rw [E8];exact (d.out.hm.cell q).trans e) underlying62 rfl J3) ?_) | (refine Z8 rfl 62 _ _ rfl (B:=w.heap.size+1+1) (j:=0) rfl (vs:=[vO,vI m.ep,vL o gs.length l,vI m.s.wd,vL ta m.s.ts.length tc,vL ra m.s.rs.length rc]) rfl d.out.hr x9 f.out J3 ?_;intro z u r))
     exact Hr d.out u r rfl f.out (by rw [g.out];rfl) (fun m' c=>by rw [g.out] at c;cases c;exact A.out I4) rfl rfl
   have hc':(cd==0)=false:=by simpa using hc
   have g:=U0 (y.out.trans (A8 hc));clear y A;have f:Hid (∀ v∈([vO,vI m.ep,vL o gs.length l,vI m.s.wd,vL ta m.s.ts.length tc,vL ra m.s.rs.length rc]:List Value),v.oneCell'=true):=Cj rfl rfl rfl rfl rfl rfl
   go_wp2_with (first | (refine Z9 rfl (Y8 62 _ rfl (B:=w.heap.size) (j:=0) (cs:=[vO,vI m.ep,vL o gs.length l,vI m.s.wd,vL ta m.s.ts.length tc,vL ra m.s.rs.length rc]) rfl (fun q v e=>by rw [E8];exact (d.out.hm.cell q).trans e) underlying62 rfl J3) ?_) | (refine Z8 rfl 62 _ _ rfl (B:=w.heap.size+1+1) (j:=0) rfl (vs:=[vO,vI m.ep,vL o gs.length l,vI m.s.wd,vL ta m.s.ts.length tc,vL ra m.s.rs.length rc]) rfl d.out.hr x9 f.out J3 ?_;intro z u r))
   exact Hr d.out u r rfl f.out (by rw [g.out];rfl) (fun m' c=>by rw [g.out] at c;cases c) rfl rfl
 · have k4:=H.out.he.cell 4;have k5:=H.out.he.cell 5;have k6:=H.out.he.cell 6;have k7:=H.out.he.cell 7;have k8:=H.out.he.cell 8;have k9:=H.out.he.cell 9;have X:=H.out.hm.cell 3;have U:=H.out.hm.cell 4;have S:=H.out.hm.cell 5;dsimp only [Ag,p_.c,List.getElem?_cons_zero,List.getElem?_cons_succ] at N k4 k5 k6 k7 k8 k9 X U S;have hc38:=a1R m.s km ls c t b0 ta ra R tc rc Z W (gQ p.out.ok.st) Y.2.2.1 Y.2.2.2.1.1 Y.2.2.2.1.2 Y.2.2.2.2 HS.out.parts.2 (N7 HLK.out H.out.b);have HKS:=U0 (ES (m:=km) (ls:=ls) (c:=c) (t:=t) p.out.ok.st);have HKW:=U0 (UU (m:=km) (ls:=ls) (c:=c) (t:=t) p.out.ok.st);have y:Hid (dn m (Ag km ls c t)=_):=rZ;unfold Nu at hc38;generalize K_ m.s km ls c t=K at*
   go_upto_region 12 with fail
   go_wp2_with fail
   refine hc38.mono ?_;rintro e C ⟨⟨E,D,I,F,rfl,ho⟩,J⟩;have k:=U0 (H.out.below J);have d3:=k.out.hm.cell 3;have d4:=k.out.hm.cell 4;have d5:=k.out.hm.cell 5;have f3:=k.out.hm.opn 3;have f4:=k.out.hm.opn 4;have f5:=k.out.hm.opn 5;simp only [@gz Value] at d3 d4 d5
   go_upto_region 15 with fail
   have d:=U0 (((k.out.put 3 (vI K.1.wd)).put 4 (vL E K.1.ts.length D)).put 5 (vL I K.1.rs.length F));dsimp only [List.set_cons_succ,List.set_cons_zero] at d;have A:Hid (K.2=0->Gw (((C.setCell (aW w 3) (vI K.1.wd)).setCell (aW w 4) (vL E K.1.ts.length D)).setCell (aW w 5) (vL I K.1.rs.length F)) b0 ⟨m.ep,m.fs,K.1⟩ [vO,vI m.ep,vL fa m.fs.length fc,vI K.1.wd,vL E K.1.ts.length D,vL I K.1.rs.length F]):=fun hc=>by
    have h:Gw C b0 ⟨m.ep,m.fs,K.1⟩ [vO,vI m.ep,vL fa m.fs.length fc,vI K.1.wd,vL E K.1.ts.length D,vL I K.1.rs.length F]:=⟨⟨e0,e1,p.out.ok.fl,p.out.ok.fz,HKS.out hc⟩,_,_,_,rfl,(p.out.below k.out.b).parts.1,Ut ho (Q7 hb0 H.out.b.size)⟩;exact ((h.put k.out.hm _).put (k.out.put 3 _).hm _).put ((k.out.put 3 _).put 4 _).hm _
   clear J d3 d4 d5 f3 f4 f5 k ho hc38;generalize ((C.setCell (aW w 3) (vI K.1.wd)).setCell (aW w 4) (vL E K.1.ts.length D)).setCell (aW w 5) (vL I K.1.rs.length F)=V at*;obtain ⟨cd,hcd⟩:∃ cd,cd=K.2:=⟨_,rfl⟩;rw [<- hcd] at y A ⊢;clear hcd;by_cases hc:cd=0
   · subst hc;have g:=U0 (y.out.trans (G8 rfl));clear y;have f:Hid (∀ v∈([vO,vI m.ep,vL fa m.fs.length fc,vI K.1.wd,vL E K.1.ts.length D,vL I K.1.rs.length F]:List Value),v.oneCell'=true):=Cj rfl rfl rfl rfl rfl rfl
     go_wp2_with (first | (refine Z9 rfl (Y8 62 _ rfl (B:=w.heap.size) (j:=0) (cs:=[vO,vI m.ep,vL fa m.fs.length fc,vI K.1.wd,vL E K.1.ts.length D,vL I K.1.rs.length F]) rfl (fun q v e=>by rw [E8];exact (d.out.hm.cell q).trans e) underlying62 rfl J3) ?_) | (refine Z8 rfl 62 _ _ rfl (B:=w.heap.size+1+1) (j:=0) rfl (vs:=[vO,vI m.ep,vL fa m.fs.length fc,vI K.1.wd,vL E K.1.ts.length D,vL I K.1.rs.length F]) rfl d.out.hr x9 f.out J3 ?_;intro z u r))
     exact Hr d.out u r rfl f.out (by rw [g.out];rfl) (fun m' c=>by rw [g.out] at c;cases c;exact A.out I4) rfl rfl
   have hc':(cd==0)=false:=by simpa using hc
   have g:=U0 (y.out.trans (A8 hc));clear y A;have f:Hid (∀ v∈([vO,vI m.ep,vL fa m.fs.length fc,vI K.1.wd,vL E K.1.ts.length D,vL I K.1.rs.length F]:List Value),v.oneCell'=true):=Cj rfl rfl rfl rfl rfl rfl
   go_wp2_with (first | (refine Z9 rfl (Y8 62 _ rfl (B:=w.heap.size) (j:=0) (cs:=[vO,vI m.ep,vL fa m.fs.length fc,vI K.1.wd,vL E K.1.ts.length D,vL I K.1.rs.length F]) rfl (fun q v e=>by rw [E8];exact (d.out.hm.cell q).trans e) underlying62 rfl J3) ?_) | (refine Z8 rfl 62 _ _ rfl (B:=w.heap.size+1+1) (j:=0) rfl (vs:=[vO,vI m.ep,vL fa m.fs.length fc,vI K.1.wd,vL E K.1.ts.length D,vL I K.1.rs.length F]) rfl d.out.hr x9 f.out J3 ?_;intro z u r))
   exact Hr d.out u r rfl f.out (by rw [g.out];rfl) (fun m' c=>by rw [g.out] at c;cases c) rfl rfl
 have X:=H.out.hm.cell 3;have U:=H.out.hm.cell 4;have S:=H.out.hm.cell 5;have f3:=H.out.hm.opn 3;have f4:=H.out.hm.opn 4;have f5:=H.out.hm.opn 5;dsimp only [U_,p_.c,List.getElem?_cons_zero,List.getElem?_cons_succ] at N X U S;have g:Hid (dn m U_=_):=wZ
 go_upto_region 15 with fail
 have d:=U0 (((H.out.put 3 (vI m.s.wd)).put 4 vN).put 5 vN);dsimp only [List.set_cons_succ,List.set_cons_zero] at d;have A:Hid (Gw (((W.setCell (aW w 3) (vI m.s.wd)).setCell (aW w 4) vN).setCell (aW w 5) vN) b0 ⟨m.ep,m.fs,⟨m.s.wd,[],[]⟩⟩ [vO,vI m.ep,vL fa m.fs.length fc,vI m.s.wd,vN,vN]):=by
  have h:Gw W b0 ⟨m.ep,m.fs,⟨m.s.wd,[],[]⟩⟩ [vO,vI m.ep,vL fa m.fs.length fc,vI m.s.wd,vN,vN]:=⟨⟨e0,e1,p.out.ok.fl,p.out.ok.fz,Yq p.out.ok.st.1⟩,_,_,_,rfl,HS.out.parts.1,Gp _ _⟩;exact ((h.put H.out.hm _).put (H.out.put 3 _).hm _).put ((H.out.put 3 _).put 4 _).hm _
 clear X U S f3 f4 f5;generalize ((W.setCell (aW w 3) (vI m.s.wd)).setCell (aW w 4) vN).setCell (aW w 5) vN=V at*;have f:Hid (∀ v∈([vO,vI m.ep,vL fa m.fs.length fc,vI m.s.wd,vN,vN]:List Value),v.oneCell'=true):=Cj rfl rfl rfl rfl rfl rfl
 go_wp2_with (first | (refine Z9 rfl (Y8 62 _ rfl (B:=w.heap.size) (j:=0) (cs:=[vO,vI m.ep,vL fa m.fs.length fc,vI m.s.wd,vN,vN]) rfl (fun q v e=>by rw [E8];exact (d.out.hm.cell q).trans e) underlying62 rfl J3) ?_) | (refine Z8 rfl 62 _ _ rfl (B:=w.heap.size+1+1) (j:=0) rfl (vs:=[vO,vI m.ep,vL fa m.fs.length fc,vI m.s.wd,vN,vN]) rfl d.out.hr x9 f.out J3 ?_;intro z u r))
 exact Hr d.out u r rfl f.out (by rw [g.out];rfl) (fun m' c=>by rw [g.out] at c;cases c;exact A.out) rfl rfl
end Go.Proofs.YtkdbheidpdjimaaGreatDoor
namespace Go.Proofs.YtkdbheidpdjimaaGreatDoor
open Proofs.Tryz Go.RowKit
def pW (W:Int):MS:=⟨0,[],⟨W,[],[]⟩⟩
def Dw (es:LB) (W:Int):Prop:=(1<=W/\W<=8)/\es.length<=1000
def Rp5 (w:World) (es:LB) (W:Int) (e:Ending) (w':World):Prop:=∃ vs,e=.returned (.agg vs.toArray)/\((¬ Dw es W/\vs=[.int .i64 1,.int .i64 0,.slice none 0 0,.int .i64 0,.slice none 0 0,.slice none 0 0])\/(Dw es W/\∃ o,dG RES es (pW W) o/\((o=none/\vs=[.int .i64 2,.int .i64 0,.slice none 0 0,.int .i64 0,.slice none 0 0,.slice none 0 0])\/∃ m,o=some m/\Gw w' w.heap.size m vs)))
structure Q5 (w:World) (B:Nat) (m:MS) (vs:List Value) (u:World):Prop where
 b:Bw w u
 hB:w.heap.size<B
 hr:Cl u w.heap.size 62 [.int .i64 0,.int .i64 0,.slice none 0 0,.int .i64 0,.slice none 0 0,.slice none 0 0]
 hm:Cl u B 62 vs
 sp:Gw u w.heap.size m vs
section
variable {w u u' z:World} {m:MS} {vs:List Value} {es:LB} {W:Int}
theorem Q5.below {B:Nat} (h:Q5 w B m vs u) (a:Bw u u'):Q5 w B m vs u':=⟨h.b.trans (a.mono h.b.size),h.hB,h.hr.below a h.hr.lt,h.hm.below a h.hm.lt,h.sp.below a⟩
def upd (f:Nat->p_) (k:Nat) (x:p_):Nat->p_:=fun j=>if j=k then x else f j
theorem dK {f:Nat->p_} {k:Nat} {x:p_}:upd f k x k=x:=G8 rfl
theorem MJ {f:Nat->p_} {k j:Nat} {x:p_} (h:j<k):upd f k x j=f j:=A8 O0
section
variable {R:List UInt8->p_->Bool->Prop} {m0 m m':MS} {f:Nat->p_} {k:Nat} {x:p_}
theorem Gx (hF:∀ j,j<k->R (eL es j) (f j) true) (hR:rn f m0 k=some m) (hx:R (eL es k) x true) (hd:dn m x=some m'):(∀ j,j<k+1->R (eL es j) (upd f k x j) true)/\rn (upd f k x) m0 (k+1)=some m':=by
 refine ⟨fun j a=>?_,?_⟩
 · by_cases h:j=k
   · subst h;rw [dK];exact hx
   rw [MJ O0];exact hF j O0
 show (rn _ _ k).bind _=_;rw [Rk (g:=f) k (fun j a=>MJ a),hR];show dn m _=_;rw [dK];exact hd
theorem yP (b:k<es.length) (hF:∀ j,j<k->R (eL es j) (f j) true) (hR:rn f m0 k=some m) (hx:R (eL es k) x true) (hd:dn m x=none):dG R es m0 none:=
 .inr ⟨rfl,k,upd f k x,m,b,fun j a=>(by rw [MJ a];exact hF j a),(Rk k (fun j a=>MJ a)).trans hR,.inr ⟨(by rw [dK];exact hx),(by rw [dK];exact hd)⟩⟩
theorem JW (a:k<es.length) (hF:∀ j,j<k->R (eL es j) (f j) true) (hR:rn f m0 k=some m) (hx:R (eL es k) Ii false):dG R es m0 none:=.inr ⟨rfl,k,f,m,a,hF,hR,.inl hx⟩
theorem jR (hF:∀ j,j<es.length->R (eL es j) (f j) true) (hR:rn f m0 es.length=some m):dG R es m0 (some m):=.inl ⟨f,m,hF,hR,rfl⟩
end
theorem mP {a b c d e f:Value} (h:vs.length=6):Zp [a,b,c,d,e,f] 0 vs=vs:=by
 unfold Zp;rw [h];simp
theorem a0i (h:1<=W/\W<=8):GZ (pW W):=⟨by show (0:Int)<=0;omega,by show (0:Int)<=200;omega,by show (0:Nat)<=40;omega,fun i=>⟨by show (0:Nat)<=4000;omega,by show (0:Nat)<=4000;omega⟩,Yq h⟩
theorem rO {a:Array Value} (n:Int) (hc:Cl u w.heap.size 62 [.int .i64 0,.int .i64 0,.slice none 0 0,.int .i64 0,.slice none 0 0,.slice none 0 0]) (g:Cl z w.heap.size 62 vs) (b:vF w.heap.size u z) (d:Bw w u) (hl:vs.length=6) (c:a.getD 4 undef=.pointer (some ⟨w.heap.size,0,none⟩)) (f:∀ z:World,(∀ q t,Gf u q t->t≠62->z.heap[q]?=u.heap[q]?)->Rp5 w es W (.returned (.agg vs.toArray)) z):bodyPost prog f18 (fun e w'=>Rp5 w es W e w'/\Bw w w') .ret ⟨a,[]⟩ z:=
 P7 (v:=.agg vs.toArray) (b_ (P:=prog) (ty:=62) rfl a z w.heap.size vs _ c g.blk underlying62 rfl (by rw [hl];kernel_rfl)) rfl ⟨f z (fun q t hT ht=>b.block q (fun e=>ht (X8 (e▸hT) (Qb hc)))),d.trans (b.below x9)⟩
end
theorem c18 (a:OA) (cap:Nat) (es:LB) (W:Int) (w:World) (hl:es.length<=1048576) (hs:∀ i,(es.getD i ByteArray.empty).size<=1048576) (hat:y8 w a es):
 Calls prog 18 #[.slice a es.length cap,.int .i64 W] w fun e w'=>Rp5 w es W e w'/\Bw w w':=by
 have HAT:=U0 hat;have HSZ:=U0 hs;clear hat hs;go_enter func18,ntmps18
 go_upto_region 1 with fail
 obtain ⟨V,hV⟩:∃ V:World,V=w.alloc (.cells #[vO,vO,vN,vO,vN,vN] 62):=⟨_,rfl⟩;rw [<- hV];have D:Bw w V:=by rw [hV];exact o7
 have r:Hid (Cl V w.heap.size 62 [vO,vO,vN,vO,vN,vN]):=by show Cl _ _ _ _;rw [hV];exact G6 w [vO,vO,vN,vO,vN,vN] 62
 have p:V.heap.size=w.heap.size+1:=by rw [hV];simp
 have HZ:=U0 p;clear hV p;have l:Hid (∀ v∈([vI 1,vO,vN,vO,vN,vN]:List Value),v.oneCell'=true):=Cj rfl rfl rfl rfl rfl rfl;by_cases hw:1<=W/\W<=8;rotate_left
 · have HBD:Hid (¬ Dw es W):=fun h=>hw h.1;have hd:=P9 hw
   go_wp2_with fail
   refine (c16 W V).mono ?_;rintro e V1 ⟨rfl,Q⟩;obtain rfl:=Q.symm;rw [hd]
   go_wp2_with (refine Z8 rfl 62 _ _ rfl (B:=w.heap.size) (j:=0) rfl (vs:=[vI 1,vO,vN,vO,vN,vN]) rfl r.out x9 l.out J3 ?_;intro z g d)
   exact rO 1 r.out g d D rfl rfl (fun z _=>⟨_,rfl,.inl ⟨HBD.out,rfl⟩⟩)
 have hd:=y_ hw
 go_wp2_with fail
 refine (c16 W V).mono ?_;rintro e V1 ⟨rfl,Q⟩;obtain rfl:=Q.symm;rw [hd];by_cases hbig:1000<es.length
 · have HBD:Hid (¬ Dw es W):=fun h=>by have:=h.2;omega
   have N:(1000:Int)<es.length:=O0
   go_wp2_with (refine Z8 rfl 62 _ _ rfl (B:=w.heap.size) (j:=0) rfl (vs:=[vI 1,vO,vN,vO,vN,vN]) rfl r.out x9 l.out J3 ?_;intro z g d)
   exact rO 1 r.out g d D rfl rfl (fun z _=>⟨_,rfl,.inl ⟨HBD.out,rfl⟩⟩)
 have N:¬ (1000:Int)<es.length:=O0;have Z:Hid (Dw es W):=⟨hw,O0⟩
 go_upto_region 4 with fail
 obtain ⟨U,S⟩:∃ U:World,U=V.alloc (.cells #[vO,vO,vN,vI W,vN,vN] 62):=⟨_,rfl⟩;rw [<- S];have HQ:Hid (Q5 w V.heap.size (pW W) [vO,vO,vN,vI W,vN,vN] U):=by
  rw [S];exact ⟨D.alloc D.size _,by rw [HZ.out];omega,Oa r.out _,G6 V [_,_,_,_,_,_] 62,a0i hw,_,_,_,rfl,ng _ _ _ _,Gp _ _⟩
 clear S r;generalize V.heap.size=B at*;clear D HZ hd
 go_wp2_with fail
 go_loopw [6] (fun i wr=>∃ (k:Nat) (f:Nat->p_) (m:MS) (vs:List Value),i=.int .i64 k/\k<=es.length/\Hid (∀ j,j<k->RES (eL es j) (f j) true)/\Hid (rn f (pW W) k=some m)/\Hid (Q5 w B m vs wr)) (fun i _=>es.length - (intOf i).toNat)
 case atStart=>exact ⟨0,fun _=>Ii,_,_,rfl,D5 _,fun j h=>absurd h (o9 _),rfl,HQ⟩
 obtain ⟨k,f,m,vs,rfl,hk,K,J,H⟩:=hrel;clear HQ;have hsp:=H.out.sp.ex;obtain ⟨fv,tv,rv,rfl,hfo,hso⟩:=hsp;obtain ⟨fa,fc,rfl⟩:=Za hfo;obtain ⟨ta,tc,rfl⟩:=Za hso.1;obtain ⟨_,vs0,hr0⟩:=hso;obtain ⟨ra,rc,rfl⟩:=Za hr0.row;clear hr0 hfo;have HLD:Hid (∀ (q:Nat) (v:Value),([vO,vI m.ep,vL fa m.fs.length fc,vI m.s.wd,vL ta m.s.ts.length tc,vL ra m.s.rs.length rc]:List Value)[q]?=some v->wr.cell? (aA B (0+q))=some v):=fun q v e=>by rw [E8];exact (H.out.hm.cell q).trans e
 by_cases L:k<es.length;rotate_left
 · obtain rfl:k=es.length:=O0;have l:Hid (∀ v∈([vO,vI m.ep,vL fa m.fs.length fc,vI m.s.wd,vL ta m.s.ts.length tc,vL ra m.s.rs.length rc]:List Value),v.oneCell'=true):=Cj rfl rfl rfl rfl rfl rfl
   go_wp2_with (first | (refine Z9 rfl (Y8 62 _ rfl (B:=B) (j:=0) (cs:=[vO,vI m.ep,vL fa m.fs.length fc,vI m.s.wd,vL ta m.s.ts.length tc,vL ra m.s.rs.length rc]) rfl HLD.out underlying62 rfl J3) ?_) | (refine Z8 rfl 62 _ _ rfl (B:=w.heap.size) (j:=0) rfl (vs:=[vO,vI m.ep,vL fa m.fs.length fc,vI m.s.wd,vL ta m.s.ts.length tc,vL ra m.s.rs.length rc]) rfl H.out.hr x9 l.out J3 ?_;intro z g d))
   exact rO 0 H.out.hr g d H.out.b rfl rfl (fun z p=>⟨_,rfl,.inr ⟨Z.out,_,jR K.out J.out,.inr ⟨m,rfl,H.out.sp.keep p⟩⟩⟩)
 obtain ⟨b,off,hst⟩:=Q_ (Z5 HAT.out H.out.b);obtain ⟨rfl,hbw,hce⟩:=Nc hst L;have hc0:=hce k L;clear hce;have HRD:=U0 (c54 (es.getD k ByteArray.empty) wr (HSZ.out k));have HEL:Hid ((es.getD k ByteArray.empty).data.toList=eL es k):=rfl;generalize es.getD k ByteArray.empty=s at*
 go_upto_region 7 with fail
 go_wp2_with fail
 refine HRD.out.mono ?_;rintro e u ⟨⟨x,ok,F,C,rfl,hx,hxz,hxl,hlk⟩,N⟩;rw [HEL.out] at hx;have H1:=U0 (H.out.below N);have I:=U0 hx;have HXZ:=U0 hxz;have HXL:=U0 hxl;have O:=U0 hlk;clear HRD hx hxz hxl hlk H hc0 HLD;dsimp only [p_.c]
 go_upto_region 8 with fail
 obtain ⟨y,A⟩:∃ q:World,q=u.alloc (.cells (x.c F C).toArray 105):=⟨_,rfl⟩;have X:Bw u y:=by rw [A];exact o7
 have CE:Hid (Cl y u.heap.size 105 (x.c F C)):=by show Cl _ _ _ _;rw [A];exact G6 u _ 105
 dsimp only [p_.c] at A;rw [<- A];have H:=U0 (H1.out.below X);have O:=U0 (N7 O.out X);clear A X H1 N;generalize u.heap.size=E at*;cases ok
 · obtain ⟨hz1,hz2,hz3⟩:=HXZ.out rfl;have HBAD:=U0 (hz1▸I.out);have l:Hid (∀ v∈([vI 2,vO,vN,vO,vN,vN]:List Value),v.oneCell'=true):=Cj rfl rfl rfl rfl rfl rfl;clear hz1 hz2 hz3
   go_wp2_with (refine Z8 rfl 62 _ _ rfl (B:=w.heap.size) (j:=0) rfl (vs:=[vI 2,vO,vN,vO,vN,vN]) rfl H.out.hr x9 l.out J3 ?_;intro z g d)
   exact rO 2 H.out.hr g d H.out.b rfl rfl (fun z p=>⟨_,rfl,.inr ⟨Z.out,_,JW L K.out J.out HBAD.out,.inl ⟨rfl,rfl⟩⟩⟩)
 have HEN:=U0 (I.out.1 rfl).1;have HLM:Hid (∀ (q:Nat) (v:Value),([vO,vI m.ep,vL fa m.fs.length fc,vI m.s.wd,vL ta m.s.ts.length tc,vL ra m.s.rs.length rc]:List Value)[q]?=some v->y.cell? (aA B (0+q))=some v):=fun q v e=>by rw [E8];exact (H.out.hm.cell q).trans e
 have HLE:Hid (∀ (q:Nat) (v:Value),(x.c F C)[q]?=some v->y.cell? (aA E (0+q))=some v):=fun q v e=>by rw [E8];exact (CE.out.cell q).trans e
 have HC:=U0 (c55 w.heap.size m _ x F C y H.out.sp H.out.b.size HEN.out HXL.out O.out)
 go_upto_region 10 with fail
 go_wp2_with (first | (refine Z9 rfl (Y8 62 _ rfl (B:=B) (j:=0) (cs:=[vO,vI m.ep,vL fa m.fs.length fc,vI m.s.wd,vL ta m.s.ts.length tc,vL ra m.s.rs.length rc]) rfl HLM.out underlying62 rfl J3) ?_) | (refine Z9 rfl (Y8 105 _ rfl (B:=E) (j:=0) (cs:=x.c F C) rfl HLE.out underlying105 rfl J3) ?_))
 refine HC.out.mono ?_;rintro e w2 ⟨⟨o,rfl,R,ho2,hS2⟩,hb2⟩;have n:=U0 (H.out.below hb2);have HO2:=U0 ho2;have HS2:=U0 hS2;have HI2:Hid ((prog.info? 62).map (·.size)=some o.length):=by show _=_;rw [R];kernel_rfl
 have HL2:Hid (0+o.length<=([vO,vI m.ep,vL fa m.fs.length fc,vI m.s.wd,vL ta m.s.ts.length tc,vL ra m.s.rs.length rc]:List Value).length):=by show _<=_;rw [R];exact Y9 _
 have HPL:Hid (Zp [vO,vI m.ep,vL fa m.fs.length fc,vI m.s.wd,vL ta m.s.ts.length tc,vL ra m.s.rs.length rc] 0 o=o):=mP R;clear HC ho2 hS2 hb2 H HLM HLE CE O HXL
 go_upto_region 11 with (refine Z8 rfl 62 _ _ rfl (B:=B) (j:=0) rfl (vs:=o) rfl n.out.hm HL2.out HO2.out HI2.out ?_;intro z g d)
 rw [HPL.out] at g;have CZ:=U0 g;have Y:=U0 (n.out.hr.on d (by have:=n.out.hB;omega));have BZ:=U0 (n.out.b.trans (d.below (kF n.out.hB)));have KZ:Hid (∀ q t,Gf w2 q t->t≠62->z.heap[q]?=w2.heap[q]?):=fun q t hT ht=>d.block q (fun e=>ht (X8 (e▸hT) (Qb n.out.hm)));have hBB:=n.out.hB;clear g d n HL2 HI2 HPL
 cases hd:dn m x with
 | none=>
  have P:=U0 hd;have l:Hid (∀ v∈([vI 2,vO,vN,vO,vN,vN]:List Value),v.oneCell'=true):=Cj rfl rfl rfl rfl rfl rfl;clear hd
  go_wp2_with (refine Z8 rfl 62 _ _ rfl (B:=w.heap.size) (j:=0) rfl (vs:=[vI 2,vO,vN,vO,vN,vN]) rfl Y.out x9 l.out J3 ?_;intro z2 cz2 oz2)
  exact rO 2 Y.out cz2 oz2 BZ.out rfl rfl (fun z p=>⟨_,rfl,.inr ⟨Z.out,_,yP L K.out J.out I.out P.out,.inl ⟨rfl,rfl⟩⟩⟩)
 | some m'=>
  have P:=U0 hd;have HSP:=U0 ((HS2.out m' hd).keep KZ.out);clear hd HS2 KZ;go_wp2;go_roundw
  case rel=>exact ⟨k+1,upd f k x,m',o,by go_num,O0,(Gx K.out J.out I.out P.out).1,(Gx K.out J.out I.out P.out).2,BZ.out,hBB,Y.out,CZ.out,HSP.out⟩
  case measure=>simp [intOf];omega
end Go.Proofs.YtkdbheidpdjimaaGreatDoor
namespace Go.Proofs.YtkdbheidpdjimaaGreatDoor
open Proofs.Tryz Go.RowKit
section
variable {w w' u u':World} {B B' R H bT bR bP j n:Nat} {W:Int} {l pl:List (ByteArray×Value)} {rs:List R3} {rv:List Value} {v x0 x1 x2:Value} {x:R3} {a:OA} {gs:List T.F2}
theorem Xl {g:Nat} (h:w'.heap[g]?=w.heap[g]?) (j:Nat):w'.cell? ⟨g,j,none⟩=w.cell? ⟨g,j,none⟩:=by simp only [World.cell?,h]
theorem KQ {g:Nat} (h:w'.heap[g]?=w.heap[g]?) (j:Nat):w'.frozen? ⟨g,j,none⟩=w.frozen? ⟨g,j,none⟩:=by simp only [World.frozen?,h]
theorem Vq (h:T.Qs B w a gs) (c:w.heap.size<=w'.heap.size) (d:∀ q,Gf w q 99->w'.heap[q]?=w.heap[q]?) (hB:B'<=B):T.Qs B' w' a gs:=by
 obtain ⟨hf,h⟩:=h;rcases h with rfl | ⟨g,rfl,hg,ho,ht⟩
 · exact ⟨.inl rfl,.inl rfl⟩
 have e:=d g ht;refine ⟨?_,.inr ⟨g,rfl,O0,⟨m_ ho.1 c,fun j f=>by rw [Xl e];exact ho.2.1 j f,fun j=>by rw [KQ e];exact ho.2.2 j⟩,?_⟩⟩
 · rcases hf with h0 | ⟨b,off,h1,h2,l⟩
   · exact .inl h0
   injection h1 with h1;injection h1 with h1 h4;subst h1 h4;exact .inr ⟨g,0,rfl,m_ h2 c,fun i k=>by rw [Xl e,Xl e];exact l i k⟩
 obtain ⟨cur,fr,hc⟩:=ht;exact ⟨cur,fr,e.trans hc⟩
theorem EY (w:World) (R j:Nat) (v:Value):w.grownBy (w.setCell ⟨R,j,none⟩ v) (some R):=
 have o:=uh w R j v
 ⟨o.os,o.tape,o.output,jq o.size.symm,fun k _ h=>o.block k (fun e=>h (by rw [e]))⟩
theorem aN (h:YA B w v x) (hR:Cl w R 130 [.int .i64 W,.slice a n j,.pointer (some ⟨H,0,none⟩)]) (i:Nat) (y:Value):YA B (w.setCell ⟨R,i,none⟩ y) v x:=by
 obtain ⟨a,c,hv,p,m⟩:=h;have o:=uh w R i y;rcases p with h0 | ⟨b,off,ha,l,hc⟩
 · exact ⟨a,c,hv,.inl h0,.inl h0⟩
 by_cases hl:x.gs=[]
 · exact ⟨a,c,hv,.inl hl,.inl hl⟩
 have k:b≠R:=fun e=>by
  subst e;have h0:=(hc 0 (Gt.2 hl)).1;rw [hR.cell] at h0;rcases (by omega:off+0*3=0\/off+0*3=1\/off+0*3=2\/3<=off+0*3) with e | e | e | e
  · rw [e] at h0;cases h0
  · rw [e] at h0;cases h0
  · rw [e] at h0;cases h0
  rw [Ec (by simpa using e)] at h0;cases h0
 have e:=o.block b k;refine ⟨a,c,hv,.inr ⟨b,off,ha,by rw [o.size];exact l,fun q g=>by rw [Xl e,Xl e,Xl e];exact hc q g⟩,m.imp id ?_⟩;rintro ⟨b',f,d,h⟩;obtain ⟨rfl,rfl⟩:b'=b/\f=off:=by rw [ha] at d;injection d with d;injection d with h1 h2;exact ⟨h1.symm,h2.symm⟩
 exact ⟨b',f,d,h.imp id (fun ⟨cur,fr,hc⟩=>⟨cur,fr,e.trans hc⟩)⟩
theorem Sh.LX (h:Sh B H bT bR bP W l rs rv w) {ep:Int} {p:Nat} (hR:Cl w R 130 [.int .i64 ep,.slice a n j,.pointer (some ⟨p,0,none⟩)]) (i:Nat) (y:Value):Sh B H bT bR bP W l rs rv (w.setCell ⟨R,i,none⟩ y):=by
 obtain ⟨pl,hC,hr⟩:=h;have g:=EY w R i y;have hm:∀ {k:TypeId} {F:Value->Option (DataW Value×List MemPlace)} {b n:Nat} {m:DataW Value},w.ownsMap prog k F b n m->some b≠some R:=fun h e=>by
  obtain ⟨es,ck,c⟩:=Ph h;obtain rfl:=Q9 e;unfold Cl at hR;rw [hR] at c;cases c
 refine ⟨pl,hC.kept g (fun e=>absurd (X8 hC.ty (Q9 e▸Qb hR)) O6) (hm hC.tx) (hm hC.rc) (hm hC.pc),hr.len,fun i d=>aN (hr.recs i d) hR _ _,fun k v e=>(hr.grp k v e).kept g ?_,hr.non,hr.apart,hr.pln⟩
 cases hq:v.ownBlock with
 | none=>exact .inl rfl
 | some q=>
  refine .inr (fun f=>?_);obtain ⟨_,_,cur,hc⟩:=Hg (hr.grp k v e) hq;obtain rfl:=Q9 f;exact absurd (X8 ⟨_,_,hc⟩ (Qb hR)) O6
theorem Sh.below' (h:Sh B H bT bR bP W l rs rv w) (a:Bw w w'):Sh B H bT bR bP W l rs rv w':=by
 obtain ⟨pl,hC,hr⟩:=h;exact ⟨pl,hC.below a,hr.below a⟩
end
structure KI (b0 R:Nat) (m:MS) (fa:OA) (fc H B bT bR bP:Nat) (rv:List Value) (u:World):Prop where
 ok:GZ m
 cr:Cl u R 130 [.int .i64 m.ep,.slice fa m.fs.length fc,.pointer (some ⟨H,0,none⟩)]
 nf:T.Qs b0 u fa m.fs
 sh:Sh B H bT bR bP m.s.wd (m.s.ts.map (gT m.s.wd)) m.s.rs rv u
 hB:b0<=B
 hR:b0<=R
def ImM (b0 R:Nat) (m:MS) (u:World):Prop:=∃ fa fc H B bT bR bP rv,KI b0 R m fa fc H B bT bR bP rv u
theorem KI.below {b0 R fc H B bT bR bP:Nat} {m:MS} {fa:OA} {rv:List Value} {u u':World} (h:KI b0 R m fa fc H B bT bR bP rv u) (a:Bw u u'):KI b0 R m fa fc H B bT bR bP rv u':=
 ⟨h.ok,h.cr.below a h.cr.lt,Vq h.nf a.size (fun q b=>a.block q (je b)) x9,h.sh.below' a,h.hB,h.hR⟩
def QX (w:World) (b0 R:Nat) (m:MS) (x:p_) (e:Ending) (w':World):Prop:=e=.returned (.bool (dn m x).isSome)/\(∀ m',dn m x=some m'->ImM b0 R m' w')
end Go.Proofs.YtkdbheidpdjimaaGreatDoor
namespace Go.Proofs.YtkdbheidpdjimaaGreatDoor
open Proofs.Tryz Go.RowKit
section
variable {b0 R fc H B bT bR bP:Nat} {m:MS} {fa:OA} {rv:List Value} {u:World}
theorem KI.ep (h:KI b0 R m fa fc H B bT bR bP rv u) (n:Int) (h0:0<=n/\n<=200):KI b0 R ⟨n,m.fs,m.s⟩ fa fc H B bT bR bP rv (u.setCell ⟨R,0,none⟩ (.int .i64 n)):=
 have o:=uh u R 0 (vI n)
 ⟨⟨h0.1,h0.2,h.ok.fl,h.ok.fz,h.ok.st⟩,h.cr.set 0 _,Vq h.nf (jq o.size.symm) (fun q a=>o.block q (fun e=>absurd (X8 a (e▸Qb h.cr)) O6)) x9,h.sh.LX h.cr 0 _,h.hB,h.hR⟩
theorem KI.fs {a:OA} {b c:Nat} {gs:List T.F2} (h:KI b0 R m fa fc H B bT bR bP rv u) (g:T.Qs c u a gs) (j:b0<=c) (hl:gs.length<=40) (d:∀ i,(gs.getD i T.P8).le 4000):KI b0 R ⟨m.ep,gs,m.s⟩ a b H B bT bR bP rv (u.setCell ⟨R,1,none⟩ (.slice a gs.length b)):=
 have o:=uh u R 1 (vL a gs.length b)
 ⟨⟨h.ok.e0,h.ok.e1,hl,d,h.ok.st⟩,h.cr.set 1 _,Vq g (jq o.size.symm) (fun q f=>o.block q (fun e=>absurd (X8 f (e▸Qb h.cr)) O6)) j,h.sh.LX h.cr 1 _,h.hB,h.hR⟩
theorem KI.ts {a B' c d f:Nat} {b:List Value} {s':St} (h:KI b0 R m fa fc H B bT bR bP rv u) (g:Sh B' a c d f s'.wd (s'.ts.map (gT s'.wd)) s'.rs b u) (k:b0<=B') (j:dh s'):KI b0 R ⟨m.ep,m.fs,s'⟩ fa fc a B' c d f b (u.setCell ⟨R,2,none⟩ (.pointer (some ⟨a,0,none⟩))):=
 have o:=uh u R 2 (.pointer (some (aA a 0)))
 ⟨⟨h.ok.e0,h.ok.e1,h.ok.fl,h.ok.fz,j⟩,h.cr.set 2 _,Vq h.nf (jq o.size.symm) (fun q i=>o.block q (fun e=>absurd (X8 i (e▸Qb h.cr)) O6)) x9,g.LX h.cr 2 _,k,h.hR⟩
end
theorem c70 (b0 R:Nat) (m:MS) (x:p_) (v:OA) (O:Nat) (w:World) (hM:ImM b0 R m w) (hb0:b0<=w.heap.size) (hmx:Tc w) (hx:U8 x) (hxl:x.le 1048576) (hlk:I9 w v x.ls):
 Calls prog 70 #[.pointer (some ⟨R,0,none⟩),zU x v O] w fun e w'=>QX w b0 R m x e w'/\Below b0 w w':=by
 obtain ⟨fa,fc,H,B,bT,bR,bP,rv,r⟩:=hM;have I:=U0 r;have HLK:=U0 hlk;have e0:=r.ok.e0;have e1:=r.ok.e1;have Y:=r.cr.cell 0;have X:=r.cr.cell 1;have Q:=r.cr.cell 2;have J:=r.cr.opn;have hR:=r.hR;have hRl:=r.cr.lt;simp only [@gz Value] at Y X Q;clear r hlk;rcases hx with ⟨n,hn,rfl⟩ | ⟨a,b,h,rfl⟩ | ⟨a,h,rfl⟩ | ⟨km,ls,c,t,h,rfl⟩ | rfl
 · have h0:=LV;show Calls prog 70 #[_,.iface 200 (.int .i64 n)] w _;have f0:=J 0;clear J;go_enter func70,ntmps70;by_cases hne:n=m.ep+1;rotate_left
   · have d:Hid (dn m (r_ n)=none):=by show _=_;exact zX.trans (A8 hne)
     go_wp2;go_ret;exact ⟨⟨by rw [d.out];rfl,fun m' c=>by rw [d.out] at c;cases c⟩,Z4 _ _⟩
   obtain rfl:=hne;have d:Hid (dn m (r_ (m.ep+1))=some ⟨m.ep+1,m.fs,m.s⟩):=by show _=_;exact zX.trans (G8 rfl)
   have l:=U0 (I.out.ep (m.ep+1) ⟨O0,hn.2⟩);go_wp2;go_ret;exact ⟨⟨by rw [d.out];rfl,fun m' c=>by rw [d.out] at c;cases c;exact ⟨_,_,_,_,_,_,_,_,l.out⟩⟩,(Z4 _ _).setCell hR _⟩
 · have h0:=QS;have h1:=gV;clear J;show Calls prog 70 #[_,.iface 201 (.agg #[.string a,.string b])] w _;have HX4:Hid ((⟨a,b⟩:T.F2).le 1048576):=⟨by have:=fQ h.1;show a.size<=1048576;omega,by show b.size<=1048576;omega⟩;have HFZ:Hid (∀ i,(m.fs.getD i T.P8).le 1048576):=fun i=>⟨Q7 (I.out.ok.fz i).1 O6,Q7 (I.out.ok.fz i).2 O6⟩;go_enter func70,ntmps70
   go_upto_region 10 with fail
   obtain ⟨y,g⟩:∃ q:World,q=w.alloc (.cells #[vS a,vS b] 201):=⟨_,rfl⟩;have f:Bw w y:=by rw [g];exact o7
   have o:Hid (Cl y w.heap.size 201 [vS a,vS b]):=by show Cl _ _ _ _;rw [g];exact G6 w [_,_] 201
   rw [<- g];have j:Bw y y.drew:=(Z4 _ _).drew;have A:=U0 ((I.out.below f).below j);have CD:=U0 (o.out.below j o.out.lt);clear g Y X Q;refine wp_region_held_drew (S:=fun u=>u.cell? (aW w 0)=some (vS a)/\u.cell? (aW w 1)=some (vS b)) J3 ⟨CD.out.cell 0,CD.out.cell 1⟩ fun hH=>?_;refine Y0 0 ?_;refine Y0 1 ?_;refine Y0 2 ?_;refine Y0 3 ?_;refine Y0 5 ?_;have P:=A.out.cr.cell 1;simp only [@gz Value] at P;refine rq 4 fun K k=>?_;go_simp;refine J8 k hH fun hH=>?_;clear k K P;refine rq 6 fun K k=>?_;go_simp;refine (T.c116 fa fc m.fs ⟨a,b⟩ y.drew (by have:=I.out.ok.fl;omega) HFZ.out HX4.out A.out.nf.1).mono ?_;rintro e F ⟨⟨V,U,cd,gs,rfl,Z,z⟩,N⟩;have C:=U0 (A.out.below N);have C1:=U0 (CD.out.below N CD.out.lt);have HNF:=U0 Z;have B1:=U0 (((f.mono hb0).trans (j.mono (by have:=f.size;omega))).trans (N.mono (by have:=f.size;have:=j.size;omega)));have D:Hid (dn m (Vb a b)=if cd=0 then some ⟨m.ep,gs,m.s⟩ else none):=by
    show _=_;by_cases hc:cd=0
    · subst hc;rw [G8 rfl,OU,NR z];rfl
    rw [A8 hc,OU,CO z hc];rfl
   have l:Hid (cd=0->KI b0 R ⟨m.ep,gs,m.s⟩ V U H B bT bR bP rv (F.setCell (aA R 1) (vL V gs.length U))):=fun hc=>by
    subst hc;have L:=YB z I.out.ok.fz;exact C.out.fs HNF.out (by have:=f.size;have:=j.size;omega) L.1 L.2
   clear Z N z hH;refine J8 k ⟨C1.out.cell 0,C1.out.cell 1⟩ fun hH=>?_;clear k K;refine Y0 7 ?_;refine Y0 8 ?_;refine Y0 9 ?_;refine Y0 10 ?_;refine Y0 11 ?_;have P:=C.out.cr.cell 1;have q2:=C.out.cr.opn 1;simp only [@gz Value] at P;refine rq 12 fun K k=>?_;go_simp;have C2:=C1.out.on (uh F R 1 (vL V gs.length U)) (fun e=>absurd (X8 (Qb C1.out) (e▸Qb C.out.cr)) O6);clear hH;refine J8 k ⟨C2.cell 0,C2.cell 1⟩ fun hH=>?_;clear k K P q2 C2;refine Y0 13 ?_;refine wdn ?_;clear hH C1 CD o C;by_cases hc:cd=0
   · subst hc;have d:=U0 (D.out.trans (G8 rfl));clear D;go_wp2;go_ret;exact ⟨⟨by rw [d.out];rfl,fun m' c=>by rw [d.out] at c;cases c;exact ⟨_,_,_,_,_,_,_,_,l.out I4⟩⟩,B1.out.setCell hR _⟩
   have hc':(cd==0)=false:=by simpa using hc
   have d:=U0 (D.out.trans (A8 hc));clear D l;go_wp2;go_ret;exact ⟨⟨by rw [d.out];rfl,fun m' c=>by rw [d.out] at c;cases c⟩,B1.out.setCell hR _⟩
 · have h0:=rV;have h1:=RS;have h2:=aU;have f1:=J 1;clear J;show Calls prog 70 #[_,.iface 202 (.string a)] w _;have HFZ:Hid (∀ i,(m.fs.getD i T.P8).le 1048576):=fun i=>⟨Q7 (I.out.ok.fz i).1 O6,Q7 (I.out.ok.fz i).2 O6⟩;go_enter func70,ntmps70
   go_upto_region 13 with fail
   go_wp2_with fail
   refine (T.c117 fa fc m.fs a w (by have:=I.out.ok.fl;omega) HFZ.out I.out.nf.1).mono ?_;rintro e F ⟨⟨V,U,cd,gs,rfl,Z,z⟩,N⟩;have C:=U0 (I.out.below N);have HNF:=U0 Z;have P:=C.out.cr.cell 1;have q2:=C.out.cr.opn 1;simp only [@gz Value] at P;have B1:=U0 (N.mono hb0);have D:Hid (dn m (Xb a)=if cd=0 then some ⟨m.ep,gs,m.s⟩ else none):=by
    show _=_;by_cases hc:cd=0
    · subst hc;rw [G8 rfl,nV,kW z];rfl
    rw [A8 hc,nV,WV z hc];rfl
   have l:Hid (cd=0->KI b0 R ⟨m.ep,gs,m.s⟩ V U H B bT bR bP rv (F.setCell (aA R 1) (vL V gs.length U))):=fun hc=>by
    subst hc;have L:=Iy z I.out.ok.fz;exact C.out.fs HNF.out hb0 L.1 L.2
   clear Z N z Y X Q f1;by_cases hc:cd=0
   · subst hc;have d:=U0 (D.out.trans (G8 rfl));clear D;go_wp2;go_ret;exact ⟨⟨by rw [d.out];rfl,fun m' c=>by rw [d.out] at c;cases c;exact ⟨_,_,_,_,_,_,_,_,l.out I4⟩⟩,B1.out.setCell hR _⟩
   have hc':(cd==0)=false:=by simpa using hc
   have d:=U0 (D.out.trans (A8 hc));clear D l;go_wp2;go_ret;exact ⟨⟨by rw [d.out];rfl,fun m' c=>by rw [d.out] at c;cases c⟩,B1.out.setCell hR _⟩
 · have h0:=CS;have h1:=nS;have h2:=eU;have h3:=jV;clear J;show Calls prog 70 #[_,.iface 204 (.agg #[.string km.nm,.string km.tl,.string km.ar,.slice v ls.length O,.int .i64 c,.string t])] w _;have HXL:=U0 hxl;have HLK:Hid (I9 w v ls):=HLK.out;have HKO:=U0 (Uz (m:=km) (ls:=ls) (c:=c) (t:=t) I.out.ok.st);have HSK:=U0 (DK (m:=km) (ls:=ls) (c:=c) (t:=t) I.out.ok.st);have HD4:Hid (dn m (Ag km ls c t)=_):=rZ;clear hxl;go_enter func70,ntmps70
   go_upto_region 16 with fail
   obtain ⟨y,g⟩:∃ q:World,q=w.alloc (.cells #[vS km.nm,vS km.tl,vS km.ar,vL v ls.length O,vI c,vS t] 204):=⟨_,rfl⟩;have f:Bw w y:=by rw [g];exact o7
   have o:Hid (Cl y w.heap.size 204 [vS km.nm,vS km.tl,vS km.ar,vL v ls.length O,vI c,vS t]):=by show Cl _ _ _ _;rw [g];exact G6 w [_,_,_,_,_,_] 204
   rw [<- g];have W:=U0 (I.out.below f);clear g Y X Q;have HS:Hid (∀ u,Bw y u->u.cell? (aA R 2)=some (.pointer (some (aA H 0)))/\u.cell? (aW w 0)=some (vS km.nm)/\u.cell? (aW w 1)=some (vS km.tl)/\u.cell? (aW w 2)=some (vS km.ar)/\u.cell? (aW w 3)=some (vL v ls.length O)/\u.cell? (aW w 4)=some (vI c)/\u.cell? (aW w 5)=some (vS t)):=fun u hu=>by
    have h1:=W.out.cr.below hu W.out.cr.lt;have h2:=o.out.below hu o.out.lt;exact ⟨h1.cell 2,h2.cell 0,h2.cell 1,h2.cell 2,h2.cell 3,h2.cell 4,h2.cell 5⟩
   have j:Bw y y.drew:=(Z4 _ _).drew;refine wp_region_held_drew (S:=fun u=>u.cell? (aA R 2)=some (.pointer (some (aA H 0)))/\u.cell? (aW w 0)=some (vS km.nm)/\u.cell? (aW w 1)=some (vS km.tl)/\u.cell? (aW w 2)=some (vS km.ar)/\u.cell? (aW w 3)=some (vL v ls.length O)/\u.cell? (aW w 4)=some (vI c)/\u.cell? (aW w 5)=some (vS t)) J3 (HS.out _ j) fun hH=>?_;refine Y0 0 ?_;refine Y0 1 ?_;refine Y0 2 ?_;refine Y0 3 ?_;refine Y0 4 ?_;refine Y0 5 ?_;refine Y0 6 ?_;refine Y0 7 ?_;refine Y0 8 ?_;refine Y0 9 ?_;have A:=U0 (W.out.below j);have LD:=U0 (N7 (N7 HLK.out f) j);have hgs:∀ i,(m.s.rs.getD i g_).gs.length<=1048576:=fun i=>Q7 (dL I.out.ok.st i) O6;have HC:=U0 (a1J B H bT bR bP m.s.wd m.s.ts m.s.rs rv km ls c t v O y.drew A.out.sh I.out.ok.st.1 (Dl I.out.ok.st) I.out.ok.st.2.1.1 I.out.ok.st.2.2.1 hgs HXL.out.2.2.1 HXL.out.2.2.2.1.1 HXL.out.2.2.2.1.2 HXL.out.2.2.2.2 LD.out);clear hgs;refine rq 10 fun K k=>?_;go_simp;refine HC.out.mono ?_;rintro e F ⟨⟨rfl,hKS⟩,hbB,hKF⟩;have BD:=U0 (((f.mono hb0).trans (j.mono (by have:=f.size;omega))).trans (hbB.mono I.out.hB));have CR1:Hid (Cl F R 130 [vI m.ep,vL fa m.fs.length fc,.pointer (some (aA H 0))]):=(hKF R 130 (Qb A.out.cr) O6).trans A.out.cr;have E:=(hKF w.heap.size 204 (Qb (o.out.below j o.out.lt)) O6).trans (o.out.below j o.out.lt);have E:Cl F w.heap.size 204 [vS km.nm,vS km.tl,vS km.ar,vL v ls.length O,vI c,vS t]:=E;have NF1:=U0 (Vq A.out.nf hbB.size (fun q hq=>hKF q 99 hq O6) (Y9 b0));have HKS:=U0 hKS;have hH1:=CR1.out.cell 2;clear HC hKS hKF hbB hH;refine J8 k ⟨hH1,E.cell 0,E.cell 1,E.cell 2,E.cell 3,E.cell 4,E.cell 5⟩ fun hH=>?_;clear k K hH1 E;refine Y0 11 ?_;refine wdn ?_;clear hH HS o W A LD;obtain ⟨cd,hcd⟩:∃ cd,cd=l_ m.s.wd m.s.ts m.s.rs km ls c t:=⟨_,rfl⟩;rw [<- hcd] at HKO HSK HKS ⊢;clear hcd;by_cases hc:cd=0
   · subst hc;have d:Hid (dn m (Ag km ls c t)=some ⟨m.ep,m.fs,⟨m.s.wd,(X6 m.s.wd (Xh ls c t) (m.s.ts,true)).1,Vd m.s.rs (Bg m.s.wd km ls c t)⟩⟩):=by
      have h:=HD4.out;rw [HKO.out.1 rfl] at h;exact h.trans (G8 rfl)
     obtain ⟨rv1,hs1⟩:=HKS.out rfl;have IF:Hid (ImM b0 R ⟨m.ep,m.fs,⟨m.s.wd,(X6 m.s.wd (Xh ls c t) (m.s.ts,true)).1,Vd m.s.rs (Bg m.s.wd km ls c t)⟩⟩ F):=⟨_,_,_,_,_,_,_,_,⟨⟨e0,e1,I.out.ok.fl,I.out.ok.fz,HSK.out rfl⟩,CR1.out,NF1.out,hs1,I.out.hB,hR⟩⟩;clear hs1 HKS HKO HSK HD4;go_wp2;go_ret;exact ⟨⟨by rw [d.out];rfl,fun m' c=>by rw [d.out] at c;cases c;exact IF.out⟩,BD.out⟩
   have hc':(cd==0)=false:=by simpa using hc
   have d:Hid (dn m (Ag km ls c t)=none):=by
    have h:=HD4.out;rw [HKO.out.2 hc] at h;exact h.trans (A8 hc)
   clear HKS HKO HSK HD4;go_wp2;go_ret;exact ⟨⟨by rw [d.out];rfl,fun m' c=>by rw [d.out] at c;cases c⟩,BD.out⟩
 have h0:=XT;have h1:=wU;have h2:=YS;have h3:=pU;have h4:=QT;have f2:=J 2;clear J;show Calls prog 70 #[_,.iface 207 (.agg #[])] w _;have d:Hid (dn m U_=_):=wZ;obtain ⟨pl,hC,_⟩:=I.out.sh;have hw0:=hC.blk 0 _ rfl;have hHl:=hC.lt;clear hC;go_enter func70,ntmps70
 go_upto_region 19 with fail
 obtain ⟨y,g⟩:∃ q:World,q=w.alloc (.cells #[] 207):=⟨_,rfl⟩;have f:Bw w y:=by rw [g];exact o7
 rw [<- g];have q2:=(f.cell (p:=(aA R 2)) hRl).trans Q;have q0:=(f.cell (p:=(aA H 0)) hHl).trans hw0;have W:=U0 (I.out.below f);have hys:=f.size;clear g Y X Q f2 hw0
 go_wp2_with fail
 refine (c68 ⟨m.s.wd,[],[]⟩ none none 0 0 y (Yq I.out.ok.st.1) (gQ (Yq I.out.ok.st.1)) ⟨.inl rfl,.inl rfl⟩ (G9 hmx f)).mono ?_;rintro e w2 ⟨⟨H',bT',bR',bP',rv',rfl,L⟩,hb2⟩;have l:=U0 (W.out.below hb2);have I3:=U0 (l.out.ts (s':=⟨m.s.wd,[],[]⟩) L O0 (Yq I.out.ok.st.1));have p2:=l.out.cr.cell 2;have pf:=l.out.cr.opn 2;simp only [@gz Value] at p2;have B2:=U0 ((f.mono hb0).trans (hb2.mono O0));clear L hb2 q2 q0;go_wp2;go_ret;exact ⟨⟨by rw [d.out];rfl,fun m' c=>by rw [d.out] at c;cases c;exact ⟨_,_,_,_,_,_,_,_,I3.out⟩⟩,B2.out.setCell hR _⟩
