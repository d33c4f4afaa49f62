import Derived.Test.YtdjaajjndfbpmaaGreatDoorDN
import Derived.Test.YtdjaajjndfbpmaaGreatDoorXA
import Derived.Test.YtdjaajjndfbpmaaGreatDoorZ51
set_option linter.unusedVariables false
set_option maxHeartbeats 8000000
set_option maxRecDepth 100000
namespace Go.Proofs.YtdjaajjndfbpmaaGreatDoor
open Go.RowKit
attribute [local go_sem] Oper.semAt_some
section
variable {l n:Nat} {P:Program} {ops:Array Oper} {Q:Exit->Act->World->Prop}
theorem oF {rest:List Oper} {o:Oper} {a:Act} {w w':World} {v:Value} (d:o.guard=none) (e:∀ c,o.op≠.defer c) (b:(execOp a.eval o).run P w=.ok (.value v) w') (h:wpListIn (Fence.wide.inRound l) n P ops Q rest (a.put o.dst v) w'):wpListIn (Fence.wide.inRound l) n P ops Q (o::rest) a w:=by
 refine wpListIn_plain d fun K f=>⟨fun _ _=>trivial,?_⟩;rw [show o.semAt (Fence.wide.inRound l).round a.eval=execOp a.eval o from Oper.semAt_some l _ _ e,b];exact f _ _ h
theorem TK {rest:List Oper} {o:Oper} {a:Act} {w w':World} (d:o.guard=none) (e:∀ c,o.op≠.defer c) (b:(execOp a.eval o).run P w=.ok .skip w') (h:wpListIn (Fence.wide.inRound l) n P ops Q rest (a.put o.dst undef) w'):wpListIn (Fence.wide.inRound l) n P ops Q (o::rest) a w:=by
 refine wpListIn_plain d fun K f=>⟨fun _ _=>trivial,?_⟩;rw [show o.semAt (Fence.wide.inRound l).round a.eval=execOp a.eval o from Oper.semAt_some l _ _ e,b];exact f _ _ h
theorem DK {rest:List Oper} {o:Oper} {a:Act} {w:World} (g:o.guard=none) (ty:TypeId) (x y:Operand) (ho:o.op=.store ty x y) {B j:Nat} {t:TypeId} {xs vs:List Value} (hx:a.eval x=.pointer (some ⟨B,j,none⟩)) (d:a.eval y=.agg vs.toArray) (hB:Cl w B t xs) (b:j+vs.length<=xs.length) (h1:∀ v∈vs,v.oneCell'=true) (f:(P.info? ty).map (·.size)=some vs.length)
 (h:∀ w',Cl w' B t (Tf xs j vs)->kr B w w'->wpListIn (Fence.wide.inRound l) n P ops Q rest (a.put o.dst undef) w'):wpListIn (Fence.wide.inRound l) n P ops Q (o::rest) a w:=
 TK g (fun c e=>by rw [ho] at e;cases e) (rA ty x y ho hx d hB b h1 f) (h _ (hB.SE b) (dw _ _ _ _))
theorem SL {rest:List Oper} {o:Oper} {a:Act} {w:World} (z:o.guard=none) (s x:Operand) (t:TypeId) (ho:o.op=.call { callee:=.builtin .append,args:=#[s,x],argTypes:=#[t,t] })
 (base:Nat) (e:TypeId) (size:Nat) (f:P.underlying t=some (.slice e)) (y:Inf P e size) (g:0<size) (v:Value) (k:Nat) (xs:List Value) (j:a.eval s=v) (q:w.ownsRow base e size v k xs) (d:Value) (m:Nat) (b:List Value) (hx:a.eval x=d) (i:Src w d size m b) (h1:∀ u∈b,u.oneCell'=true) (r:k+m<=1000000) (A:base<=w.heap.size)
 (h:∀ v' w',w'.ownsRow base e size v' (k+m) (xs++b)->w.grownBy w' v.ownBlock->(v'.ownBlock=v.ownBlock\/v'.ownBlock=some w.heap.size)->wpListIn (Fence.wide.inRound l) n P ops Q rest (a.put o.dst v') w'):wpListIn (Fence.wide.inRound l) n P ops Q (o::rest) a w:=by
 obtain ⟨v',w',p,h2,h3,B⟩:=Gr w base t o.type e size f y g v k xs q d m b i h1 r A;refine oF z (fun c e=>by rw [ho] at e;cases e) (v:=v') (w':=w') ?_ (h v' w' h2 h3 B);unfold execOp;simp only [ho,resolve,invoke,builtin,Hf,Nj,Oj,Mq,zh,uk,j,hx,p]
end
def xH:Code:=Code.region 3 #[⟨some 6,.alloc 50,0, "l4_want.go:111",#[],none⟩,⟨none,.store 50 (.tmp 6) (.tmp 10),0, "l4_want.go:111",#[⟨0,.data⟩,⟨0,.phase⟩],none⟩] false
def SH:Code:=Code.block 1 (Code.region 4 #[⟨some 11,.load 28 (.tmp 5),28, "l4_want.go:112",#[],none⟩,⟨some 12,.load 50 (.tmp 6),50, "l4_want.go:112",#[],none⟩,⟨some 13,.buildSlice 28 1 #[(0,.tmp 12)],28, "l4_want.go:112",#[⟨1,.data⟩],none⟩,⟨some 14,.call ⟨.builtin .append,#[.tmp 11,.tmp 13],#[28,28]⟩,28, "l4_want.go:112",#[⟨0,.data⟩,⟨2,.data⟩],none⟩,⟨none,.store 28 (.tmp 5) (.tmp 14),0, "l4_want.go:112",#[⟨3,.data⟩,⟨3,.chain⟩,⟨0,.phase⟩,⟨1,.phase⟩,⟨2,.phase⟩,⟨3,.phase⟩],none⟩] false)
theorem a21 (l m Bd:Nat) (x:De) (hx:Ou x.lv=true) (W:World) (u0 u1 u2 u3 u4 u6 u7 u8 u9 u10 u11 u12 u13 u14 u15 u16 u17:Value) (K:Act->World->Prop) (h:∀ b,Cl b W.heap.size 50 x.vs->Below W.heap.size W b->K { tmps:=#[u0,u1,u2,u3,u4,.pointer (some ⟨Bd,0,none⟩),.pointer (some ⟨W.heap.size,0,none⟩),u7,u8,u9,.agg x.vs.toArray,u11,u12,u13,u14,u15,u16,u17],defers:=[] } b):
 xH.wpIn (Fence.wide.inRound l) m Tryz.prog (Exit.then K (fun _ _ _=>False)) { tmps:=#[u0,u1,u2,u3,u4,.pointer (some ⟨Bd,0,none⟩),u6,u7,u8,u9,.agg x.vs.toArray,u11,u12,u13,u14,u15,u16,u17],defers:=[] } W:=by
 unfold xH;have d:x.lv.oneCell'=true:=by obtain ⟨a,n,c,e⟩:=Em hx;rw [e];rfl
 gi_wp2_with (refine DK rfl 50 _ _ rfl (B:=W.heap.size) (j:=0) rfl (vs:=x.vs) rfl (U1 W [.string ⟨#[]⟩,.bool false,.string ⟨#[]⟩,.string ⟨#[]⟩,.string ⟨#[]⟩,.slice none 0 0,.int .i64 0,.string ⟨#[]⟩] 50) (by simp [De.vs]) (Uu _ d) U2 ?_;intro w2 g f)
 exact h _ g (bA.trans (f.below P9))
theorem jQ (l m Bd B6 base c:Nat) (x:De) (hx:Ou x.lv=true) (pre:List De) (va:Option Addr) (hp:pre.length<=481) (W:World) (u0 u1 u2 u3 u4 u6 u7 u8 u9 u10 u11 u12 u13 u14 u15 u16 u17:Value) (Q:Exit->Act->World->Prop) (b:Cl W Bd 28 [.slice va pre.length c]) (y:Cl W B6 50 x.vs) (w:W.ownsRow base 50 8 (.slice va pre.length c) pre.length (Zo pre)) (hb:base<=W.heap.size)
 (hQ:∀ a v' d,d.ownsRow base 50 8 v' (pre.length+1) (Zo pre++x.vs)->(W.alloc (.cells x.vs.toArray 50)).grownBy d (Value.slice va pre.length c).ownBlock->(v'.ownBlock=(Value.slice va pre.length c).ownBlock\/v'.ownBlock=some (W.alloc (.cells x.vs.toArray 50)).heap.size)->Q .normal a (d.setCell ⟨Bd,0,none⟩ v')):
 SH.wpIn (Fence.wide.inRound l) m Tryz.prog Q { tmps:=#[u0,u1,u2,u3,u4,.pointer (some ⟨Bd,0,none⟩),.pointer (some ⟨B6,0,none⟩),u7,u8,u9,u10,u11,u12,u13,u14,u15,u16,u17],defers:=[] } W:=by
 unfold SH;have u:x.lv.oneCell'=true:=by obtain ⟨a,n,c,e⟩:=Em hx;rw [e];rfl
 have g:Below W.heap.size W (W.alloc (.cells x.vs.toArray 50)):=bA;have A:=Q0 (ownsRow_below w g);have O:Hid (Cl (W.alloc (.cells x.vs.toArray 50)) W.heap.size 50 x.vs):=Q0 (U1 W _ 50);have H:base<=(W.alloc (.cells x.vs.toArray 50)).heap.size:=J4;have d0:W.cell? ⟨Bd,0,none⟩=some (.slice va pre.length c):=b.cell 0;have HD:=Q0 b;have N:=Q0 y;have HX:=Q0 u;have I:=Q0 hQ;have C:Hid (∀ d:World,(W.alloc (.cells x.vs.toArray 50)).grownBy d (Value.slice va pre.length c).ownBlock->Cl d Bd 28 [.slice va pre.length c]):=fun d E=>(b.below g b.lt).gb E (fun e=>by
  obtain ⟨_,cur,F⟩:=Y2 A.out e.symm;exact J6 F (b.below g b.lt) K3 rfl)
 obtain ⟨⟨k,md,⟨r,p,o⟩,ls,⟨rc,rt⟩,wt⟩,lv⟩:=x;obtain ⟨la,s,t,rfl⟩:=Em hx;clear b y w u g hQ
 gi_wp2_with (first | (refine oF rfl (fun _ e=>by cases e) (yg 50 _ rfl (B:=B6) (j:=0) (cs:=[.string k,.bool md,.string r,.string p,.string o,.slice la s t,.int .i64 rc,.string rt]) rfl (fun q v e=>by rw [R7];exact (N.out.cell q).trans e) Tryz.underlying50 rfl U2) ?_) | (refine SL rfl _ _ 28 rfl base 50 8 Tryz.underlying28 zG K3 (.slice va pre.length c) pre.length (Zo pre) rfl A.out _ 1 [.string k,.bool md,.string r,.string p,.string o,.slice la s t,.int .i64 rc,.string rt] rfl (.inr ⟨⟨W.heap.size,0,none⟩,1,rfl,rfl,za O.out⟩) (by intro v hv;simp at hv;rcases hv with rfl | rfl | rfl | rfl | rfl | rfl | rfl | rfl <;> rfl) O0 H ?_;intro v' f i h z;have J:=Q0 i;have K:=Q0 h;have L:=Q0 z;obtain ⟨vf,vg,D⟩:=b_ i;subst D;have d1:f.cell? ⟨Bd,0,none⟩=some (.slice va pre.length c):=(C.out f h).cell 0;have d2:f.frozen? ⟨Bd,0,none⟩=false:=(C.out f h).opn 0;clear i h z))
 exact I.out _ _ _ J.out K.out L.out
end Go.Proofs.YtdjaajjndfbpmaaGreatDoor
namespace Go.Proofs.YtdjaajjndfbpmaaGreatDoor
open Go.RowKit
structure JD (f:Fx) (E:Env) (Bd D l:Nat) (r:Loop) (pre:List De) (g:Gh) (W:World):Prop where
 vT:Ab f g W
 YV:og E g none
 q:g.q=[]
 bd:∃ v,Cl W Bd 28 [v]/\P_ f.base v pre W/\∀ k,v.ownBlock=some k->g.ow k=none
 ol:∀ x∈pre,∀ k,x.lv.ownBlock=some k->g.ow k=none
 PZ:g.ow Bd=none
 lp:W.heap[l]?=some (.loop r)
 olp:g.ow l=none
 df:W.heap[D]?=some (.deferred (some []))
 odf:g.ow D=none
 gl:f.base<=l
 gb:f.base<=Bd
theorem KO (f:Fx) (E:Env) (Bd D l:Nat) (r:Loop):gM f E (JD f E Bd D l r) where
 st _ _ _ h:=⟨h.vT,h.YV,h.q⟩
 mv pre g W g' W' h hs hl hq hz hb hk ho:=by
  have a:∀ (k:Nat) o,W.heap[k]?=some o->(∀ cur fz,o≠.cells cur 9 fz)->g.ow k=none->W'.heap[k]?=W.heap[k]?:=fun k o e h9 j=>hk k (Ha.1 e).1 j (fun cur fz c=>by rw [e] at c;exact h9 cur fz (j6 c));obtain ⟨v,hv,b,i⟩:=h.bd;refine ⟨hs,hl,hq,⟨v,(a _ _ hv (by intro _ _ c;cases c) h.PZ).trans hv,b.keep (fun k e=>?_) (fun x hx k e=>?_),fun k e=>ho k (b.row.lt k e).2 (i k e)⟩,fun x hx k e=>ho k ((b.lk x hx).lt k e).2 (h.ol x hx k e),ho _ hv.lt h.PZ,(a _ _ h.lp (by intro _ _ c;cases c) h.olp).trans h.lp,ho _ (Ha.1 h.lp).1 h.olp,(a _ _ h.df (by intro _ _ c;cases c) h.odf).trans h.df,ho _ (Ha.1 h.df).1 h.odf,h.gl,h.gb⟩
  · obtain ⟨_,cur,d⟩:=Y2 b.row e
    exact a _ _ d (by intro _ _ c;cases c) (i k e)
  obtain ⟨_,cur,d⟩:=Y2 (b.lk x hx) e;exact a _ _ d (by intro _ _ c;cases c) (h.ol x hx k e)
theorem JD.round {f:Fx} {E:Env} {Bd D l:Nat} {r J:Loop} {pre:List De} {x:De} {g:Gh} {W C w:World} {v v':Value} (h:JD f E Bd D l r pre g W) (hv:Cl W Bd 28 [v]) (F:P_ f.base v pre W) (hov:∀ k,v.ownBlock=some k->g.ow k=none) (p:Below W.heap.size W C) (hx:W.ownsRow f.base 52 4 x.lv x.d.ls.length (R4 x.d.ls)) (hxo:∀ k,x.lv.ownBlock=some k->g.ow k=none) (hn:∀ y∈pre,∀ k,y.lv.ownBlock=some k->x.lv.ownBlock≠some k)
 (hr:w.ownsRow f.base 50 8 v' (pre.length+1) (Zo pre++x.vs)) (m:((C.putObj l (.loop J)).alloc (.cells x.vs.toArray 50)).grownBy w v.ownBlock) (R:v'.ownBlock=v.ownBlock\/v'.ownBlock=some ((C.putObj l (.loop J)).alloc (.cells x.vs.toArray 50)).heap.size):
 Yd (JD f E Bd D l r) pre x g W ((w.setCell ⟨Bd,0,none⟩ v').putObj l (.loop r))/\(w.setCell ⟨Bd,0,none⟩ v').heap[l]?=some (.loop J):=by
 have Q:=h.vT;have i:=h.YV;have lW:=(Ha.1 h.lp).1;have l2:=(p.block l lW).trans h.lp;have lt2:=(Ha.1 l2).1;obtain ⟨z,B⟩:∃ u,u=C.putObj l (.loop J):=⟨_,rfl⟩;rw [<- B] at m R;have z3:z.heap.size=C.heap.size:=by rw [B];simp
 have I:∀ k,k≠l->z.heap[k]?=C.heap[k]?:=fun k a=>by rw [B];exact World.putObj_heap_other a
 have l3:z.heap[l]?=some (.loop J):=by rw [B];exact World.putObj_heap_same lt2
 obtain ⟨Z,hW4⟩:∃ u,u=z.alloc (.cells x.vs.toArray 50):=⟨_,rfl⟩;rw [<- hW4] at m R;have s:Below z.heap.size z Z:=by rw [hW4];exact bA
 have L:∀ (u:World) (k:Nat) cur t fz P,u.heap[k]?=some (.cells cur t fz)->u.heap[l]?=some (.loop P)->k≠l:=fun u k cur t fz P h1 h2 e=>by rw [e,h2] at h1;cases h1
 have Y:=F.below p;have x2:=ownsRow_below hx p;have rl:∀ {u:World} {base e size n:Nat} {v:Value} {xs:List Value} {P:Loop},u.ownsRow base e size v n xs->u.heap[l]?=some (.loop P)->∀ k,v.ownBlock=some k->k≠l:=fun h1 h2 k e=>by
  obtain ⟨_,cur,j⟩:=Y2 h1 e;exact L _ _ _ _ _ _ j h2
 have d3:=Y.keep (fun k e=>I k (rl Y.row l2 k e)) (fun y b k e=>I k (rl (Y.lk y b) l2 k e));have x3:=Z0 x2 (fun k e=>I k (rl x2 l2 k e));have v2:=hv.below p hv.lt;have v3:Cl z Bd 28 [v]:=(I _ (L _ _ _ _ _ _ v2 l2)).trans v2;have X:=d3.below s;have x4:=ownsRow_below x3 s;have v4:=v3.below s v3.lt;have V:=X.snoc x4 hn hr m;have N:Cl w Bd 28 [v]:=v4.gb m (fun e=>by
  obtain ⟨_,cur,j⟩:=Y2 X.row e.symm;exact J6 j v4 K3 rfl)
 have l4:=(s.block l O0).trans l3;have z4:z.heap.size<=Z.heap.size:=s.size;have z5:Z.heap.size<=w.heap.size:=m.size;have z2:W.heap.size<=C.heap.size:=p.size;have l5:=(m.block l O0 (fun e=>rl X.row l4 l e.symm rfl)).trans l4;obtain ⟨W6,S⟩:∃ u,u=w.setCell ⟨Bd,0,none⟩ v':=⟨_,rfl⟩;rw [<- S];have o6:kr Bd w W6:=by rw [S];exact I6 _ _ _ _
 have v6:Cl W6 Bd 28 [v']:=by rw [S];exact N.set 0 v'
 have K:=(o6.block l (fun e=>L _ _ _ _ _ _ N l5 e.symm)).trans l5;have U:P_ f.base v' (pre++[x]) W6:=V.keep (fun k e=>o6.block k (fun c=>by
  obtain ⟨_,cur,j⟩:=Y2 V.row e;exact J6 j N K3 c)) (fun y b k e=>o6.block k (fun c=>by
  obtain ⟨_,cur,j⟩:=Y2 (V.lk y b) e;exact J6 j N K3 c))
 have lt6:=(Ha.1 K).1;obtain ⟨H,A⟩:∃ u,u=W6.putObj l (.loop r):=⟨_,rfl⟩;have O:∀ k,k≠l->H.heap[k]?=W6.heap[k]?:=fun k a=>by rw [A];exact World.putObj_heap_other a
 have l7:H.heap[l]?=some (.loop r):=by rw [A];exact World.putObj_heap_same lt6
 have z7:H.heap.size=W6.heap.size:=by rw [A];simp
 have z6:W6.heap.size=w.heap.size:=o6.size;have d7:=U.keep (fun k e=>O k (rl U.row K k e)) (fun y b k e=>O k (rl (U.lk y b) K k e));have v7:Cl H Bd 28 [v']:=(O _ (L _ _ _ _ _ _ v6 K)).trans v6;have all:∀ k,k<W.heap.size->k≠l->k≠Bd->some k≠v.ownBlock->H.heap[k]?=W.heap[k]?:=fun k a h1 h2 h3=>(O k h1).trans ((o6.block k h2).trans ((m.block k O0 h3).trans ((s.block k O0).trans ((I k h1).trans (p.block k a)))));have nw:∀ k o,U8 g.ow W.heap.size k=some o->k<W.heap.size/\g.ow k=some o:=fun k o e=>by
  by_cases a:k<W.heap.size
  · exact ⟨a,(Q5 a).symm.trans e⟩
  rw [Q9 O0] at e;cases e
 have a1X:∀ k,v'.ownBlock=some k->U8 g.ow W.heap.size k=none:=fun k e=>by
  rcases R with h1 | h1
  · rw [h1] at e
    exact (Q5 (F.row.lt k e).2).trans (hov k e)
  rw [h1] at e;cases e;exact Q9 O0
 have hbl:Below f.base W H:=by
  refine ⟨?_,?_,?_,O0,fun k a=>?_⟩
  · rw [A];show W6.os=_;rw [o6.os,m.os,s.os,B];exact p.os
  · rw [A];show W6.tape=_;rw [o6.tape,m.tape,s.tape,B];exact p.tape
  · rw [A];show W6.output=_;rw [o6.output,m.output,s.output,B];exact p.output
  have h1:=h.gl;have h2:=h.gb;exact all k (by have:=Q.sz;omega) O0 O0 (fun e=>by have:=(F.row.lt k e.symm).1;omega)
 rw [<- A];refine ⟨⟨{ g with ow:=U8 g.ow W.heap.size },⟨(Q.U8 _ P9).same h.q (Q.bl.trans hbl) (fun k o e=>?_),⟨i.mem,i.inj,i.his,i.fin,i.non,i.act,i.yR,i.bS,i.nS,i.sS,i.vR,i.WR⟩,h.q,⟨v',v7,d7,a1X⟩,fun y b k e=>?_,(Q5 hv.lt).trans h.PZ,l7,(Q5 lW).trans h.olp,?_,(Q5 (Ha.1 h.df).1).trans h.odf,h.gl,h.gb⟩,O0,fun k a e=>(Q5 a).trans e,fun k cur t fz e ht=>?_⟩,K⟩
 · obtain ⟨a,e⟩:=nw k o e
   exact all k a (fun c=>by rw [c,h.olp] at e;cases e) (fun c=>by rw [c,h.PZ] at e;cases e) (fun c=>by rw [hov k c.symm] at e;cases e)
 · rcases P8.1 b with b | b
   · exact (Q5 ((F.lk y b).lt k e).2).trans (h.ol y b k e)
   rw [R9.1 b] at e;exact (Q5 (hx.lt k e).2).trans (hxo k e)
 · refine (all D (Ha.1 h.df).1 (fun c=>?_) (fun c=>?_) (fun c=>?_)).trans h.df
   · have:=h.df;rw [c,h.lp] at this;cases this
   · have:=h.df;rw [c,show W.heap[Bd]?=_ from hv] at this;cases this
   obtain ⟨_,cur,j⟩:=Y2 F.row c.symm;have:=h.df;rw [j] at this;cases this
 refine all k (Q4 e) (L _ _ _ _ _ _ e h.lp) (J6 e hv (by rcases ht with rfl | rfl <;> decide)) fun c=>?_;obtain ⟨_,cur,j⟩:=Y2 F.row c.symm;exact J6 e j (by rcases ht with rfl | rfl <;> decide) rfl
open Proofs.Tryz
open G.T (lt)
def oD (fn D:Nat) (T:Array Value) (st:LoopState):Loop:={ state:=st,pending:=none,fn,tmps:=T,params:=#[10],assign:=xH,body:=SH,defers:=D }
theorem AO (f:Fx) (E:Env) (Bd D l m fn:Nat) (u0 u1 u2 u3 u4 u6 u7 u8 u9 u10 u11 u12 u13 u14 u15 u16 u17:Value) (pre:List De) (x:De) (g:Gh) (W:World) (h:JD f E Bd D l (oD fn D #[u0,u1,u2,u3,u4,.pointer (some ⟨Bd,0,none⟩),u6,u7,u8,u9,u10,u11,u12,u13,u14,u15,u16,u17] .ready) pre g W) (hp:pre.length<481) (hx:W.ownsRow f.base 52 4 x.lv x.d.ls.length (R4 x.d.ls)) (u:∀ k,x.lv.ownBlock=some k->g.ow k=none) (A:∀ y∈pre,∀ k,y.lv.ownBlock=some k->x.lv.ownBlock≠some k):YieldAt Fence.wide m prog l #[.agg x.vs.toArray] W fun e W'=>e=.returned (.bool true)/\Yd (JD f E Bd D l (oD fn D #[u0,u1,u2,u3,u4,.pointer (some ⟨Bd,0,none⟩),u6,u7,u8,u9,u10,u11,u12,u13,u14,u15,u16,u17] .ready)) pre x g W W':=by
 obtain ⟨v,hv,j,z⟩:=h.bd;obtain ⟨va,c,rfl⟩:=b_ j.row;have n:Ou x.lv=true:=by obtain ⟨a,c,e⟩:=b_ hx;rw [e];rfl
 have r:=(Ha.1 h.lp).1;have i:=run_yield (P:=prog) (args:=#[.agg x.vs.toArray]) h.lp rfl;rw [show ((oD fn D #[u0,u1,u2,u3,u4,.pointer (some ⟨Bd,0,none⟩),u6,u7,u8,u9,u10,u11,u12,u13,u14,u15,u16,u17] .ready).params.zip #[Value.agg x.vs.toArray]).foldl (fun tmps (t,a)=>tmps.setIfInBounds t a) (oD fn D #[u0,u1,u2,u3,u4,.pointer (some ⟨Bd,0,none⟩),u6,u7,u8,u9,u10,u11,u12,u13,u14,u15,u16,u17] .ready).tmps=#[u0,u1,u2,u3,u4,.pointer (some ⟨Bd,0,none⟩),u6,u7,u8,u9,.agg x.vs.toArray,u11,u12,u13,u14,u15,u16,u17] from by simp [oD]] at i;refine ⟨_,_,_,_,i,roundIn_of_wpIn trivial ?_⟩;clear i;refine a21 l m Bd x n W u0 u1 u2 u3 u4 u6 u7 u8 u9 u10 u11 u12 u13 u14 u15 u16 u17 _ ?_;intro q H b;have l2:=(b.block l r).trans h.lp;refine ⟨_,run_beginRound l2 rfl,?_⟩;have v2:Cl q Bd 28 [_]:=hv.below b hv.lt;have o:=ownsRow_below j.row b;have p:∀ (k:Nat) cur t fz,q.heap[k]?=some (.cells cur t fz)->k≠l:=fun k cur t fz h1 e=>by rw [e,l2] at h1;cases h1
 refine jQ l m Bd W.heap.size f.base c x n pre va O0 _ _ _ _ _ _ u6 _ _ _ _ _ _ _ _ _ _ _ _ ((World.putObj_heap_other (p _ _ _ _ v2)).trans v2) ((World.putObj_heap_other O0).trans H) (Z0 o fun k e=>World.putObj_heap_other (by obtain ⟨_,cur,F⟩:=Y2 o e;exact p _ _ _ _ F)) (by rw [World.putObj_size];have:=h.vT.sz;have:=b.size;omega) ?_;intro a v' W5 w C I;obtain ⟨s,B⟩:=h.round hv j z b hx u A w C I;exact ⟨_,_,run_endRound none B,rfl,s⟩
theorem Ot {a:Nat} (W:World) (l:Nat) (o:Obj) (hl:a<=l):Below a W (W.putObj l o):=
 ⟨rfl,rfl,rfl,X0,fun k hk=>World.putObj_heap_other O0⟩
theorem Mx {P:Program} {f:FuncId} {fn:Func} {c:Code} {args:Array Value} {w:World} {R:Ending->World->Prop} (a:P.funcs[f]?=some fn) (b:fn.body=some c)
 (h:c.wp P (bodyPostM Fence.wide 0 P fn R) { tmps:=args++Array.replicate (fn.ntmps - args.size) undef,defers:=[] } w):Calls P f args w R:=
 callsIn_wide.1 (callsIn_of_wp_marks a b trivial (wpIn_wide.2 h))
theorem g21 (f:Fx) (E:Env) (N:BD f E) (J:E.ms.length<=30) (Bd b1 b2:Nat) (nm:ByteArray) (g:Gh) (w:World) (u0 u1 u2 u3 u4 u6 u7 u8 u10 u11 u12 u13 u14 u15 u16 u17:Value) {Q:Exit->Act->World->Prop} (u:Ab f g w) (a:og E g none) (F:g.q=[]) (s:Cl w Bd 28 [.slice none 0 0]) (PZ:g.ow Bd=none) (V:f.base<=Bd) (z:Cl w b1 9 [.string nm]) (p:Cl w b2 87 [.func (.func 22) #[.pointer (some ⟨f.kb,0,none⟩)] #[]]) (I:g.ow b2=none) (H:J2 nm.data.toList=true)
 (hQ:∀ D W xs v,f.base<=D->W.heap[D]?=some (.deferred (some []))->Below f.base f.w0 W->Cl W Bd 28 [v]->P_ f.base v xs W->Vt E nm xs->Q .normal { tmps:=#[u0,u1,u2,u3,u4,.pointer (some ⟨Bd,0,none⟩),u6,u7,u8,.func (.func 73) #[] #[.pointer (some ⟨b1,0,none⟩),.pointer (some ⟨b2,0,none⟩)],u10,u11,u12,u13,u14,u15,u16,u17],defers:=[{ target:=.collected D,args:=#[] }] } W):
 (Code.rangeFunc (.tmp 9) #[10] xH SH).wp prog Q { tmps:=#[u0,u1,u2,u3,u4,.pointer (some ⟨Bd,0,none⟩),u6,u7,u8,.func (.func 73) #[] #[.pointer (some ⟨b1,0,none⟩),.pointer (some ⟨b2,0,none⟩)],u10,u11,u12,u13,u14,u15,u16,u17],defers:=[] } w:=by
 refine (wpIn_wide (n:=1)).1 (wpIn_rangeFunc ?_);intro fn _;have R:=u.sz;obtain ⟨r,d⟩:∃ r,r=oD fn w.heap.size #[u0,u1,u2,u3,u4,.pointer (some ⟨Bd,0,none⟩),u6,u7,u8,.func (.func 73) #[] #[.pointer (some ⟨b1,0,none⟩),.pointer (some ⟨b2,0,none⟩)],u10,u11,u12,u13,u14,u15,u16,u17] .ready:=⟨_,rfl⟩;obtain ⟨b,j⟩:∃ b,(w.alloc (.deferred (some []))).alloc (.loop r)=b:=⟨_,rfl⟩;have S:b.heap[w.heap.size+1]?=some (.loop r):=by
  rw [<- j];have:=World.alloc_heap_new (w.alloc (.deferred (some []))) (.loop r);rwa [Wn] at this
 have U:b.heap[w.heap.size]?=some (.deferred (some [])):=by
  rw [<- j];exact (Sm _ _ _ X0).trans (World.alloc_heap_new w _)
 have i:Below w.heap.size w b:=by
  rw [<- j];exact ((F4 _ w).alloc P9 _).alloc X0 _
 have Z:JD f E Bd w.heap.size (w.heap.size+1) r [] { g with ow:=U8 g.ow w.heap.size } b:=⟨(u.U8 _ P9).grow i,⟨a.mem,a.inj,a.his,a.fin,a.non,a.act,a.yR,a.bS,a.nS,a.sS,a.vR,a.WR⟩,F,⟨_,s.below i s.lt,⟨F9 _ _ _ _,(fun x h=>by cases h),List.Pairwise.nil⟩,fun k e=>by cases e⟩,(fun x h=>by cases h),(Q5 s.lt).trans PZ,S,Q9 O0,U,Q9 P9,O0,V⟩;refine ⟨w.heap.size+1,[{ target:=.collected w.heap.size,args:=#[] }],b,{ target:=.fn (.func 73) #[.pointer (some ⟨b1,0,none⟩),.pointer (some ⟨b2,0,none⟩)],args:=#[.func (.yield (w.heap.size+1)) #[] #[]] },b,73,#[.func (.yield (w.heap.size+1)) #[] #[],.pointer (some ⟨b1,0,none⟩),.pointer (some ⟨b2,0,none⟩)],b,?_,?_,?_,?_,fun _=>Q6 _,?_⟩
 · rw [<- j,d];exact run_enterLoop_outer _ _ _ _ _
 · have K:({ tmps:=#[u0,u1,u2,u3,u4,.pointer (some ⟨Bd,0,none⟩),u6,u7,u8,.func (.func 73) #[] #[.pointer (some ⟨b1,0,none⟩),.pointer (some ⟨b2,0,none⟩)],u10,u11,u12,u13,u14,u15,u16,u17],defers:=[] }:Act).eval (.tmp 9)=.func (.func 73) #[] #[.pointer (some ⟨b1,0,none⟩),.pointer (some ⟨b2,0,none⟩)]:=rfl
   simp only [resolve,K];simp [go_sem]
 · intro f' _;trivial
 · have X:∀ args w,(callFunc 73 args).run prog w=.ok (.enter 73 args) w:=enters_of func73 U2 rfl
   simp [invoke,go_sem,X]
 refine callsIn_wide.2 ((pQ f E N J _ (KO f E Bd w.heap.size (w.heap.size+1) r) (w.heap.size+1) 0 b1 b2 nm _ b Z (z.below i z.lt) (p.below i p.lt) ((Q5 p.lt).trans I) H ?_).mono ?_)
 · intro pre x g2 W c m ⟨g0,W0,A,hx⟩ C
   obtain ⟨v0,_,O,_⟩:=A.bd;rw [d] at c ⊢;exact AO f E Bd w.heap.size (w.heap.size+1) 0 fn u0 u1 u2 u3 u4 u6 u7 u8 (.func (.func 73) #[] #[.pointer (some ⟨b1,0,none⟩),.pointer (some ⟨b2,0,none⟩)]) u10 u11 u12 u13 u14 u15 u16 u17 pre x g2 W c m (D5 hx A.vT.sz) C (fun y l k e Y=>by
    have h1:=((O.lk y l).lt k e).2;have h2:=(hx.lt k Y).1;omega)
 rintro e W' ⟨⟨v,rfl⟩,xs,g',c,L⟩;refine ⟨_,_,run_endLoop c.lp (by rw [d];exact LoopState.noConfusion),?_⟩;obtain ⟨v,hv,o,_⟩:=c.bd;have B:∀ (k:Nat) cur t fz,W'.heap[k]?=some (.cells cur t fz)->k≠w.heap.size+1:=fun k cur t fz h1 e=>by rw [e,c.lp] at h1;cases h1
 have rl:∀ {base e size n:Nat} {v:Value} {xs:List Value},W'.ownsRow base e size v n xs->∀ k,v.ownBlock=some k->k≠w.heap.size+1:=fun h1 k e=>by
  obtain ⟨_,cur,P⟩:=Y2 h1 e;exact B _ _ _ _ P
 have m:r.pending=none:=by rw [d];rfl
 rw [m];exact hQ w.heap.size _ xs v R ((World.putObj_heap_other O0).trans c.df) (c.vT.bl.trans (Ot _ _ _ O0)) ((World.putObj_heap_other (B _ _ _ _ hv)).trans hv) (o.keep (fun k e=>World.putObj_heap_other (rl o.row k e)) (fun y l k e=>World.putObj_heap_other (rl (o.lk y l) k e))) L
theorem iQ (nm:ByteArray) (k:Nat) (w:World):Calls prog 47 #[.string nm,.func (.func 22) #[.pointer (some ⟨k,0,none⟩)] #[]] w fun e w'=>e=.returned (.func (.func 73) #[] #[.pointer (some ⟨w.heap.size,0,none⟩),.pointer (some ⟨w.heap.size+1,0,none⟩)])/\w'=(w.alloc (.cells #[.string nm] 9)).alloc (.cells #[.func (.func 22) #[.pointer (some ⟨k,0,none⟩)] #[]] 87):=by
 go_enter func47,ntmps47;go_wp2;go_ret;exact ⟨rfl,rfl⟩
theorem Vt.ds {E:Env} {nm:ByteArray} {xs ys:List De} (h:Vt E nm xs) (c:ys.Perm xs) (ho:ys.Pairwise fun a b=>lt b.d.nm a.d.nm=false):Wh E nm (ys.map (·.d)):=by
 have f:(ys.map (·.d)).map (·.nm)=ys.map (·.d.nm):=X0;have j:=(c.map (·.d.nm)).nodup_iff.2 h.nd;refine ⟨?_,fun d l=>?_,fun k=>?_⟩
 · rw [f]
   unfold gp;rw [Cs];have i:=Cs.1 j;refine (i.and ho).imp ?_;intro a b ⟨h1,h2⟩;exact eu (fun e=>h1 e.symm) h2
 · obtain ⟨y,g,rfl⟩:=D9.1 l
   exact h.ok y (c.mem_iff.1 g)
 rw [f,(c.map (·.d.nm)).mem_iff];exact h.mem k
theorem P_.perm {base g:Nat} {v:Value} {xs ys:List De} {w w':World} (h:P_ base v xs w) (l:v.ownBlock=some g) (d:ys.Perm xs) (i:w'.ownsRow base 50 8 v ys.length (Zo ys)) (j:∀ k,k<w.heap.size->k≠g->w'.heap[k]?=w.heap[k]?):P_ base v ys w':=by
 refine ⟨i,fun y f=>Z0 (h.lk y (d.mem_iff.1 f)) fun k e=>?_,(d.pairwise_iff (fun {a b} hab k e c=>hab k c e)).2 h.ne⟩;refine j k ((h.lk y (d.mem_iff.1 f)).lt k e).2 fun c=>?_;obtain ⟨_,c1,h1⟩:=Y2 (h.lk y (d.mem_iff.1 f)) e;obtain ⟨_,c2,h2⟩:=Y2 h.row l;exact J6 h1 h2 K3 c
theorem c20 (f:Fx) (E:Env) (z:BD f E) (S:E.ms.length<=30) (nm:ByteArray) (g:Gh) (w:World) (F:Ab f g w) (b:og E g none) (Q:g.q=[]) (hok:J2 nm.data.toList=true):
 Calls prog 20 #[.string nm,.func (.func 22) #[.pointer (some ⟨f.kb,0,none⟩)] #[]] w fun e w'=>∃ v,e=.returned v/\∃ xs,P_ f.base v xs w'/\Wh E nm (xs.map (·.d))/\Below f.base f.w0 w':=by
 have hbs:=F.sz;have X:Y7 E:=by rw [z.hE];exact zb z.tr z.pt
 obtain ⟨u0,o⟩:∃ u:World,u=w.alloc (.cells #[.slice none 0 0] 28):=⟨_,rfl⟩;have EW:=Q0 o;have b0:Below w.heap.size w u0:=by rw [o];exact bA
 have z0:u0.heap.size=w.heap.size+1:=by rw [o];simp
 obtain ⟨u1,m⟩:∃ u:World,u=(u0.alloc (.cells #[.string nm] 9)).alloc (.cells #[.func (.func 22) #[.pointer (some ⟨f.kb,0,none⟩)] #[]] 87):=⟨_,rfl⟩;have b1:Below u0.heap.size u0 u1:=by rw [m];exact bA.alloc X0 _
 have C26:=Cl.below (by rw [o];exact U1 w _ 28) b1 O0;have C1:Cl u1 u0.heap.size 9 [.string nm]:=by rw [m];exact J_ (U1 u0 _ 9) _
 have r:Cl u1 (u0.heap.size+1) 87 [.func (.func 22) #[.pointer (some ⟨f.kb,0,none⟩)] #[]]:=by
  rw [m];have:=U1 (u0.alloc (.cells #[.string nm] 9)) [.func (.func 22) #[.pointer (some ⟨f.kb,0,none⟩)] #[]] 87;rw [Wn] at this;exact this
 have B1:=b0.trans (b1.mono O0);have HS:=Q0 ((F.U8 _ P9).grow B1);have HL:Hid (og E { g with ow:=U8 g.ow w.heap.size } none):=Q0 ⟨b.mem,b.inj,b.his,b.fin,b.non,b.act,b.yR,b.bS,b.nS,b.sS,b.vR,b.WR⟩;have a0k:=Q0 C26;have HC1:=Q0 C1;have HC2:=Q0 r;have SV:=Q0 Q;have zle:w.heap.size<=u0.heap.size:=O0;have J:=iQ nm f.kb u0;rw [<- m] at J;have HLEN:Hid (∀ xs:List De,Vt E nm xs->xs.length<=481):=fun xs h=>by
  have:=El X S h.nd (fun k i=>(h.mem k).1 i);simpa using this
 clear F b Q o m b0 b1 C26 C1 r B1 X z0;refine Mx func20 rfl ?_;simp only [ntmps20,Br,u_,Mi,Nat.reduceAdd,Nat.reduceSub,Array.replicate_succ,Array.replicate_zero,List.push_toArray,List.append_toArray,Ba,Bc]
 go_upto_region 2 with fail
 rw [<- EW.out];clear EW
 go_wp2_with fail
 refine J.mono ?_;rintro e w1 ⟨rfl,rfl⟩;clear J
 go_wp2_with fail
 refine g21 f E z S w.heap.size u0.heap.size (u0.heap.size+1) nm _ _ _ _ _ _ _ _ _ _ _ _ _ _ _ _ _ _ HS.out HL.out SV.out a0k.out (Q9 P9) hbs HC1.out HC2.out (Q9 O0) hok ?_;intro D W xs v hD U V I l s;have R:xs≠[]:=fun e=>by have:=(s.mem nm).2 .base;rw [e] at this;cases this
 obtain ⟨gb,cap,hv⟩:∃ gb cap,v=.slice (some ⟨gb,0,none⟩) xs.length cap:=by
  rcases l.row.2 with ⟨_,h0⟩ | ⟨g',cap,cur,hv,_⟩
  · exact absurd (Ce.1 h0) R
  exact ⟨_,_,hv⟩
 subst hv;have Y:=AQ f.base gb cap xs W l.row (fun x hx=>by obtain ⟨a,c,e⟩:=b_ (l.lk x hx);rw [e];rfl) (by have:=HLEN.out xs s;omega);have d0:W.cell? ⟨w.heap.size,0,none⟩=some (.slice (some ⟨gb,0,none⟩) xs.length cap):=I.cell 0;obtain ⟨hgb,cur,A⟩:=Y2 l.row (k:=gb) rfl;have C:=Q0 I;have B:=Q0 U;have N:=Q0 V;have HDR:=Q0 l;have HFI:=Q0 s;have L:=Q0 A;clear I U V l s A R HS HL a0k HC1 HC2 SV
 go_wp2_with fail
 refine Y.mono ?_;rintro e p ⟨rfl,ys,H,ho,P,j⟩;have O:=j.size;have i:∀ k,k<W.heap.size->k≠gb->p.heap[k]?=W.heap[k]?:=fun k h1 h2=>j.block k h1 (fun e=>h2 (j6 e));have r:Cl p w.heap.size 28 [.slice (some ⟨gb,0,none⟩) xs.length cap]:=(i _ C.out.lt (J6 C.out L.out K3)).trans C.out;have d1:p.cell? ⟨w.heap.size,0,none⟩=some (.slice (some ⟨gb,0,none⟩) xs.length cap):=r.cell 0;have Z:=(i _ (Ha.1 B.out).1 (fun c=>by have:=B.out;rw [c,L.out] at this;cases this)).trans B.out;have DR:=HDR.out.perm rfl H P i;have IS:=HFI.out.ds H ho;have BL:=N.out.trans ⟨j.os,j.tape,j.output,O,fun k hk'=>i k (by have:f.base<=W.heap.size:=N.out.size;omega) O0⟩;have K:=Q0 DR;have HIS:=Q0 IS;have a1Y:=Q0 BL;have QX:=Q0 Z;clear Y H ho P O i j d0 DR IS BL Z r C B HDR HFI L N;go_wp2;refine ⟨X0,.inl ⟨_,_,rfl,run_takeDeferred QX.out,?_⟩⟩;have cl:∀ (k:Nat) cur t fz,p.heap[k]?=some (.cells cur t fz)->k≠D:=fun k cur t fz h1 e=>by rw [e,QX.out] at h1;cases h1
 have rl:∀ {base e size n:Nat} {v:Value} {xs:List Value},p.ownsRow base e size v n xs->∀ k,v.ownBlock=some k->k≠D:=fun h1 k e=>by
  obtain ⟨_,cur,A⟩:=Y2 h1 e;exact cl _ _ _ _ A
 refine ⟨_,results_tmp rfl _ _ _,?_⟩;exact ⟨_,rfl,ys,K.out.keep (fun k e=>World.putObj_heap_other (rl K.out.row k e)) (fun y hy k e=>World.putObj_heap_other (rl (K.out.lk y hy) k e)),HIS.out,a1Y.out.trans (Ot _ _ _ hD)⟩
open G (H6)
open G.T (F2 P6 X3 F3)
variable {w w':World} {cap g:Nat} {fs:List F2}
open Classical in
noncomputable def RG (kb mr mw:Nat) (pv:Value) (k:Nat):Option Ow:=if k=kb then some .kb else if k=mr then some .mr else if k=mw then some .mw else if pv.ownBlock=some k then some .pl else none
noncomputable def KP (kb mr mw:Nat) (pv:Value):Gh:=⟨[],[],.slice none 0 0,RG kb mr mw pv,[],[]⟩
theorem xN {a:Option Addr} {kb mr mw:Nat} {pv:Value} {ms:List M3} (d:Cl w' kb 98 [.slice a fs.length cap,pv,.map (some mr),.map (some mw),.slice none 0 0]) (h1:w'.ownsMap prog 9 X9 mr 0 (mapD [])) (h2:w'.ownsMap prog 9 X9 mw 0 (mapD [])) (l:w'.ownsRow w.heap.size 47 3 pv ms.length (G.R5 ms)) (l1:w.heap.size<=kb) (l2:w.heap.size<=mr) (l3:w.heap.size<=mw) (t:mr≠mw) (v:Below w.heap.size w w'):Ab ⟨w,kb,mr,mw,a,cap,fs,pv,ms⟩ (KP kb mr mw pv) w':=by
 have s:=ah (d.cell 0) (Eg h1).choose_spec.choose_spec;have r:=ah (d.cell 0) (Eg h2).choose_spec.choose_spec;have g:∀ k,pv.ownBlock=some k->k≠kb/\k≠mr/\k≠mw/\w.heap.size<=k:=fun k e=>by
  obtain ⟨u,cur,b⟩:=Y2 l e;refine ⟨J6 b d K3,fun c=>?_,fun c=>?_,u⟩
  · obtain ⟨es,z,f⟩:=Eg h1
    rw [c,f] at b;cases b
  obtain ⟨es,z,f⟩:=Eg h2;rw [c,f] at b;cases b
 exact {
  bl:=v
  FR:=fun k o e=>by
   show w.heap.size<=k;have e:RG kb mr mw pv k=some o:=e;unfold RG at e;split at e
   · omega
   split at e
   · omega
   split at e
   · omega
   split at e
   · exact (g k (by assumption)).2.2.2
   cases e
  kb:=d
  BR:=by show RG kb mr mw pv kb=_;unfold RG;rw [if_pos rfl]
  mr:=h1
  ar:=List.Pairwise.nil
  TR:=by show RG kb mr mw pv mr=_;unfold RG;rw [if_neg s.symm,if_pos rfl]
  mw:=h2
  aw:=List.Pairwise.nil
  ZR:=by show RG kb mr mw pv mw=_;unfold RG;rw [if_neg r.symm,if_neg t.symm,if_pos rfl]
  pl:=l
  jS:=fun k e=>by
   obtain ⟨q,p,m,_⟩:=g k e;show RG kb mr mw pv k=_;unfold RG;rw [R3 q,R3 p,R3 m,Y3 e]
  rd:=.inl ⟨rfl,rfl⟩
  ord:=fun k e=>by cases e
  its:=fun it h=>by cases h
  ru:=fun i x e=>by cases e
  ER:=fun i x e=>by cases e
  wr:=fun i x e=>by cases e
  aS:=fun i x e=>by cases e
  lS:=fun i x e=>by cases e
  key:=fun i x e=>by cases e
  only:=fun n h=>absurd rfl h
  kw:=fun i x e=>by cases e
  JS:=fun n h=>absurd rfl h
  inj:=fun i j x y e=>by cases e
  JR:=fun it h=>by cases h }
theorem tN (E:Env) (kb mr mw:Nat) (pv:Value):og E (KP kb mr mw pv) none:=
 ⟨(fun i x e=>by cases e),(fun i j x y e=>by cases e),(fun i x e=>by cases e),(fun i x e=>by cases e),(fun i x e=>by cases e),(fun i x e=>by cases e),(fun i x e=>by cases e),List.nodup_nil,(fun i h=>by cases h),(fun i r b7 b5 h=>by cases h),(fun i x j e=>by cases e),(fun j y e=>by cases e)⟩
theorem EQ (a:Option Addr) (cap:Nat) (fs:List F2) (ms:List M3) (nm:ByteArray) (w:World) (N:F3 w a fs) (h:X3 fs) (i:H6 fs ms) (j:J2 nm.data.toList=true) (hv:G.Zj w) (u:A7 w) (C:Z9 w) (t:10<=w.heap.size):
 Calls prog 5 #[.agg #[.slice a fs.length cap],.string nm] w fun e w'=>(∃ v,e=.returned v/\∃ xs,P_ w.heap.size v xs w'/\Wh (P5 fs ms) nm (xs.map (·.d)))/\Below w.heap.size w w':=by
 have n:=Q0 N;have P:=Q0 h;have Q:=Q0 i;have W:=Q0 hv;have X:=Q0 u;have Z:=Q0 C;have Y:=Q0 j;have KX:Hid ((P5 fs ms).ms.length<=30):=Q0 (by show (ms.map toM).length<=30;rw [qc];exact Fa i);have I:fs.length<=1048576:=by have:=h.1;omega
 have R:=Q0 (Xl h);have hns:=Qb j;have m:∀ o1,Below w.heap.size w (w.alloc o1):=fun o1=>bA;clear N h i hv u C;go_enter func5,ntmps5
 go_wp2_with fail
 refine (G.T.c18 a cap fs _ I R.out (G.T.U0 n.out (m _))).mono ?_;rintro e w1 ⟨⟨b,rfl,L⟩,l⟩;obtain rfl:b=true:=L.2 P.out;have c:=(m _).trans (l.mono X0);have t1:w1.cell? ⟨w.heap.size,0,none⟩=some (.slice a fs.length cap):=(l.cell (p:=⟨w.heap.size,0,none⟩) X0).trans (by simp [go_sem]);clear L l m
 go_wp2_with fail
 refine (c19 nm w1 O0).mono ?_;rintro e f ⟨J,U⟩;obtain rfl:=U;have V:e=.returned (.bool true):=by rw [J];exact V3 (fun b=>Ending.returned (.bool b)) j
 subst V;clear J
 go_wp2_with fail
 refine (c21 a cap fs _ I R.out (G.T.U0 n.out c) (W.out.below c)).mono ?_;rintro e q ⟨kb,mr,mw,pv,ms',rfl,H,E,D,z,A,s,l2,r,B,k⟩;obtain rfl:=G.o_ Q.out A;rw [show pt kb=.pointer (some ⟨kb,0,none⟩) from rfl];have HFK:Hid (BD ⟨f,kb,mr,mw,a,cap,fs,pv,ms⟩ (P5 fs ms)):=Q0 ⟨by show 10<=f.heap.size;have:=c.size;omega,Dc X.out c t,Lg Z.out c t,G.T.U0 n.out c,P.out,Q.out,rfl⟩;have y:=xN (a:=a) (cap:=cap) (fs:=fs) H E D z s l2 r B k;have S:=Q0 (c20 _ _ HFK.out KX.out nm _ q y (tN (P5 fs ms) kb mr mw pv) rfl Y.out);have a1Z:Hid (Below f.heap.size f q):=Q0 k;clear y H E D z A s l2 r B k t1
 go_wp2_with fail
 refine S.out.mono ?_;rintro e o ⟨v,rfl,xs,g,his,K⟩;have O:=c.trans ((show Below f.heap.size f o from K).mono c.size);have F:=c.size;have HE:Hid (∃ xs,P_ w.heap.size v xs o/\Wh (P5 fs ms) nm (xs.map (·.d))):=Q0 ⟨xs,⟨D5 g.row F,fun x hx=>D5 (g.lk x hx) F,g.ne⟩,his⟩;obtain ⟨va,vc,rfl⟩:=b_ g.row;have NR:=Q0 O;clear g his K O S a1Z;go_wp2;go_ret;exact ⟨⟨_,rfl,HE.out⟩,NR.out⟩
theorem QQ (a:Option Addr) (cap:Nat) (fs:List F2) (nm:ByteArray) (w:World) (o:fs.length<=1048576) (f:∀ i,(fs.getD i P6).le 1048576) (m:F3 w a fs) (hns:nm.size<=1048576) (g:¬ X3 fs\/J2 nm.data.toList=false):
 Calls prog 5 #[.agg #[.slice a fs.length cap],.string nm] w fun e w'=>(∃ v,e=.returned v/\P_ w.heap.size v [] w')/\Below w.heap.size w w':=by
 have t:=Q0 m;have r:=Q0 f;have q:=Q0 g;have d:∀ o1,Below w.heap.size w (w.alloc o1):=fun o1=>bA;clear m f g;go_enter func5,ntmps5
 go_wp2_with fail
 refine (G.T.c18 a cap fs _ o r.out (G.T.U0 t.out (d _))).mono ?_;rintro e w1 ⟨⟨b,rfl,l⟩,k⟩;have c:Hid (P_ w.heap.size (.slice none 0 0) [] w1/\Below w.heap.size w w1):=⟨⟨F9 _ _ _ _,(fun x h=>by cases h),List.Pairwise.nil⟩,(d _).trans (k.mono X0)⟩;have s:=Q0 l;clear l k d;cases b
 · go_wp2
   go_ret;exact ⟨⟨_,rfl,c.out.1⟩,c.out.2⟩
 have n:J2 nm.data.toList=false:=by
  rcases q.out with h | h
  · exact absurd (s.out.1 rfl) h
  exact h
 go_wp2_with fail
 refine (c19 nm w1 O0).mono ?_;rintro e w2 ⟨j,rfl⟩;have p:e=.returned (.bool false):=by rw [j];exact V3 (fun b=>Ending.returned (.bool b)) n
 subst p;clear j;go_wp2;go_ret;exact ⟨⟨_,rfl,c.out.1⟩,c.out.2⟩
theorem sj (fs:List F2):∃ ms,H6 fs ms:=by
 by_cases a:X3 fs;rotate_left
 · exact ⟨[],.inl ⟨a,rfl⟩⟩
 by_cases g:G.Oa fs G.Rf
 · exact ⟨[],.inr (.inl ⟨a,g,rfl⟩)⟩
 obtain ⟨i,b,f⟩:∃ i,i<fs.length/\(fs.getD i P6).nm=G.Rf:=Ph fun h=>g fun i b e=>h ⟨i,b,e⟩;obtain ⟨ks,ok,d⟩:∃ ks ok,G.U9 (fs.getD i P6).tx.data.toList ks ok:=by
  by_cases h:∃ js,G.K_ js=true/\js.flatMap G.O8=(fs.getD i P6).tx.data.toList/\(fs.getD i P6).tx.data.toList.length<=300
  · obtain ⟨js,h1,h2,h3⟩:=h
    exact ⟨js,true,fun _=>⟨h1,h2,h3⟩,fun c=>by cases c⟩
  exact ⟨[],false,(fun c=>by cases c),fun _=>⟨rfl,fun js h1 h2=>Nat.lt_of_not_le fun h3=>h ⟨js,h1,h2,h3⟩⟩⟩
 by_cases h:ok=true/\G.Tc fs ks
 · exact ⟨ks,.inr (.inr ⟨a,i,b,f,ks,ok,d,.inl ⟨h.1,h.2,rfl⟩⟩)⟩
 exact ⟨[],.inr (.inr ⟨a,i,b,f,ks,ok,d,.inr ⟨h,rfl⟩⟩)⟩
end Go.Proofs.YtdjaajjndfbpmaaGreatDoor
