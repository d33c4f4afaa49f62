import Derived.Test.YthfmmimmfcnhmaaGreatDoorDU
set_option linter.unusedVariables false
set_option maxRecDepth 100000
set_option maxHeartbeats 8000000
namespace Go.Proofs.YthfmmimmfcnhmaaGreatDoor
open Go.RowKit
structure JD (f:Fx) (E:Env) (Bd D l:Nat) (r:Loop) (pre:List De) (g:Gh) (W:World):Prop where
 shp:Shp f g W
 lgc:Lgc E g none
 q:g.q=[]
 bd:∃ v,Cl W Bd 26 [v]/\DRow f.base v pre W/\∀ k,v.ownBlock=some k->g.ow k=none
 ol:∀ x∈pre,∀ k,x.lv.ownBlock=some k->g.ow k=none
 obd:g.ow Bd=none
 lp:W.heap[l]?=some (.loop r)
 olp:g.ow l=none
 df:W.heap[D]?=some (.deferred (some []))
 odf:g.ow D=none
 gl:f.base<=l
 gb:f.base<=Bd
theorem jdOk (f:Fx) (E:Env) (Bd D l:Nat) (r:Loop):JOk f E (JD f E Bd D l r) where
 st _ _ _ h:=⟨h.shp,h.lgc,h.q⟩
 mv pre g W g' W' h hs hl hq hz hb hk ho:=by
  have nt:∀ (k:Nat) o,W.heap[k]?=some o->(∀ cur fz,o≠.cells cur 9 fz)->g.ow k=none->W'.heap[k]?=W.heap[k]?:=fun k o e h9 e'=>hk k (Array.getElem?_eq_some_iff.1 e).1 e' (fun cur fz c=>by rw [e] at c;exact h9 cur fz (Option.some.inj c))
  obtain ⟨v,hv,hdr,hov⟩:=h.bd
  refine ⟨hs,hl,hq,⟨v,(nt _ _ hv (by intro _ _ c;cases c) h.obd).trans hv,hdr.keep (fun k e=>?_) (fun x hx k e=>?_),fun k e=>ho k (hdr.row.lt k e).2 (hov k e)⟩,fun x hx k e=>ho k ((hdr.lk x hx).lt k e).2 (h.ol x hx k e),ho _ hv.lt h.obd,(nt _ _ h.lp (by intro _ _ c;cases c) h.olp).trans h.lp,ho _ (Array.getElem?_eq_some_iff.1 h.lp).1 h.olp,(nt _ _ h.df (by intro _ _ c;cases c) h.odf).trans h.df,ho _ (Array.getElem?_eq_some_iff.1 h.df).1 h.odf,h.gl,h.gb⟩
  · obtain ⟨_,cur,hcu⟩:=own_block hdr.row e
    exact nt _ _ hcu (by intro _ _ c;cases c) (hov k e)
  obtain ⟨_,cur,hcu⟩:=own_block (hdr.lk x hx) e
  exact nt _ _ hcu (by intro _ _ c;cases c) (h.ol x hx k e)
theorem JD.round {f:Fx} {E:Env} {Bd D l:Nat} {r r':Loop} {pre:List De} {x:De} {g:Gh} {W W2 W5:World} {v v':Value} (h:JD f E Bd D l r pre g W) (hv:Cl W Bd 26 [v]) (hdr:DRow f.base v pre W) (hov:∀ k,v.ownBlock=some k->g.ow k=none) (hb:Below W.heap.size W W2) (hx:W.ownsRow f.base 98 4 x.lv x.d.ls.length (lkCells x.d.ls)) (hxo:∀ k,x.lv.ownBlock=some k->g.ow k=none) (hn:∀ y∈pre,∀ k,y.lv.ownBlock=some k->x.lv.ownBlock≠some k)
 (hr:W5.ownsRow f.base 55 8 v' (pre.length+1) (deC pre++x.vs)) (hg:((W2.putObj l (.loop r')).alloc (.cells x.vs.toArray 55)).grownBy W5 v.ownBlock) (hat:v'.ownBlock=v.ownBlock\/v'.ownBlock=some ((W2.putObj l (.loop r')).alloc (.cells x.vs.toArray 55)).heap.size):
 Yd (JD f E Bd D l r) pre x g W ((W5.setCell ⟨Bd,0,none⟩ v').putObj l (.loop r))/\(W5.setCell ⟨Bd,0,none⟩ v').heap[l]?=some (.loop r'):=by
 have hs:=h.shp
 have hl:=h.lgc
 have lW:l<W.heap.size:=(Array.getElem?_eq_some_iff.1 h.lp).1
 have l2:W2.heap[l]?=some (.loop r):=(hb.block l lW).trans h.lp
 have lt2:l<W2.heap.size:=(Array.getElem?_eq_some_iff.1 l2).1
 obtain ⟨W3,hW3⟩:∃ u,u=W2.putObj l (.loop r'):=⟨_,rfl⟩
 rw [<- hW3] at hg hat
 have z3:W3.heap.size=W2.heap.size:=by rw [hW3];simp
 have s3:∀ k,k≠l->W3.heap[k]?=W2.heap[k]?:=fun k hk=>by rw [hW3];exact World.putObj_heap_other hk
 have l3:W3.heap[l]?=some (.loop r'):=by rw [hW3];exact World.putObj_heap_same lt2
 obtain ⟨W4,hW4⟩:∃ u,u=W3.alloc (.cells x.vs.toArray 55):=⟨_,rfl⟩
 rw [<- hW4] at hg hat
 have b4:Below W3.heap.size W3 W4:=by rw [hW4];exact (Below.refl _ _).alloc (Nat.le_refl _) _
 have cl:∀ (u:World) (k:Nat) cur t fz rr,u.heap[k]?=some (.cells cur t fz)->u.heap[l]?=some (.loop rr)->k≠l:=fun u k cur t fz rr h1 h2 e=>by rw [e,h2] at h1;cases h1
 have d2:=hdr.below hb
 have x2:=ownsRow_below hx hb
 have rl:∀ {u:World} {base e size n:Nat} {v:Value} {xs:List Value} {rr:Loop},u.ownsRow base e size v n xs->u.heap[l]?=some (.loop rr)->∀ k,v.ownBlock=some k->k≠l:=fun h1 h2 k e=>by
  obtain ⟨_,cur,hcu⟩:=own_block h1 e
  exact cl _ _ _ _ _ _ hcu h2
 have d3:DRow f.base v pre W3:=d2.keep (fun k e=>s3 k (rl d2.row l2 k e)) (fun y hy k e=>s3 k (rl (d2.lk y hy) l2 k e))
 have x3:W3.ownsRow f.base 98 4 x.lv x.d.ls.length (lkCells x.d.ls):=ownsRow_keep x2 (fun k e=>s3 k (rl x2 l2 k e))
 have v2:Cl W2 Bd 26 [v]:=hv.below hb hv.lt
 have v3:Cl W3 Bd 26 [v]:=(s3 _ (cl _ _ _ _ _ _ v2 l2)).trans v2
 have d4:=d3.below b4
 have x4:=ownsRow_below x3 b4
 have v4:Cl W4 Bd 26 [v]:=v3.below b4 v3.lt
 have d5:DRow f.base v' (pre++[x]) W5:=d4.snoc x4 hn hr hg
 have v5:Cl W5 Bd 26 [v]:=v4.gb hg (fun e=>by
  obtain ⟨_,cur,hcu⟩:=own_block d4.row e.symm
  exact blk_ne hcu v4 (by decide) rfl)
 have l4:W4.heap[l]?=some (.loop r'):=(b4.block l (by omega)).trans l3
 have z4:W3.heap.size<=W4.heap.size:=b4.size
 have z5:W4.heap.size<=W5.heap.size:=hg.size
 have z2:W.heap.size<=W2.heap.size:=hb.size
 have l5:W5.heap[l]?=some (.loop r'):=(hg.block l (by omega) (fun e=>rl d4.row l4 l e.symm rfl)).trans l4
 obtain ⟨W6,hW6⟩:∃ u,u=W5.setCell ⟨Bd,0,none⟩ v':=⟨_,rfl⟩
 rw [<- hW6]
 have o6:OnB Bd W5 W6:=by rw [hW6];exact on_set _ _ _ _
 have v6:Cl W6 Bd 26 [v']:=by rw [hW6];exact v5.set 0 v'
 have l6:W6.heap[l]?=some (.loop r'):=(o6.block l (fun e=>cl _ _ _ _ _ _ v5 l5 e.symm)).trans l5
 have d6:DRow f.base v' (pre++[x]) W6:=d5.keep (fun k e=>o6.block k (fun c=>by
  obtain ⟨_,cur,hcu⟩:=own_block d5.row e
  exact blk_ne hcu v5 (by decide) c)) (fun y hy k e=>o6.block k (fun c=>by
  obtain ⟨_,cur,hcu⟩:=own_block (d5.lk y hy) e
  exact blk_ne hcu v5 (by decide) c))
 have lt6:l<W6.heap.size:=(Array.getElem?_eq_some_iff.1 l6).1
 obtain ⟨W7,hW7⟩:∃ u,u=W6.putObj l (.loop r):=⟨_,rfl⟩
 have s7:∀ k,k≠l->W7.heap[k]?=W6.heap[k]?:=fun k hk=>by rw [hW7];exact World.putObj_heap_other hk
 have l7:W7.heap[l]?=some (.loop r):=by rw [hW7];exact World.putObj_heap_same lt6
 have z7:W7.heap.size=W6.heap.size:=by rw [hW7];simp
 have z6:W6.heap.size=W5.heap.size:=o6.size
 have d7:DRow f.base v' (pre++[x]) W7:=d6.keep (fun k e=>s7 k (rl d6.row l6 k e)) (fun y hy k e=>s7 k (rl (d6.lk y hy) l6 k e))
 have v7:Cl W7 Bd 26 [v']:=(s7 _ (cl _ _ _ _ _ _ v6 l6)).trans v6
 have all:∀ k,k<W.heap.size->k≠l->k≠Bd->some k≠v.ownBlock->W7.heap[k]?=W.heap[k]?:=fun k hk h1 h2 h3=>(s7 k h1).trans ((o6.block k h2).trans ((hg.block k (by omega) h3).trans ((b4.block k (by omega)).trans ((s3 k h1).trans (hb.block k hk)))))
 have nw:∀ k o,extN g.ow W.heap.size k=some o->k<W.heap.size/\g.ow k=some o:=fun k o e=>by
  by_cases hk:k<W.heap.size
  · exact ⟨hk,(extN_lt hk).symm.trans e⟩
  rw [extN_ge (by omega)] at e;cases e
 have hov':∀ k,v'.ownBlock=some k->extN g.ow W.heap.size k=none:=fun k e=>by
  rcases hat with h1 | h1
  · rw [h1] at e
    exact (extN_lt (hdr.row.lt k e).2).trans (hov k e)
  rw [h1] at e
  cases e
  exact extN_ge (by omega)
 have hbl:Below f.base W W7:=by
  refine ⟨?_,?_,?_,by omega,fun k hk=>?_⟩
  · rw [hW7];show W6.os=_;rw [o6.os,hg.os,b4.os,hW3];exact hb.os
  · rw [hW7];show W6.tape=_;rw [o6.tape,hg.tape,b4.tape,hW3];exact hb.tape
  · rw [hW7];show W6.output=_;rw [o6.output,hg.output,b4.output,hW3];exact hb.output
  have h1:=h.gl
  have h2:=h.gb
  exact all k (by have:=hs.sz;omega) (by omega) (by omega) (fun e=>by have:=(hdr.row.lt k e.symm).1;omega)
 rw [<- hW7]
 refine ⟨⟨{ g with ow:=extN g.ow W.heap.size },⟨(hs.extN _ (Nat.le_refl _)).same h.q (hs.bl.trans hbl) (fun k o e=>?_),⟨hl.mem,hl.inj,hl.his,hl.fin,hl.non,hl.act,hl.que,hl.qnd,hl.qgo,hl.qre,hl.wai,hl.wls⟩,h.q,⟨v',v7,d7,hov'⟩,fun y hy k e=>?_,(extN_lt hv.lt).trans h.obd,l7,(extN_lt lW).trans h.olp,?_,(extN_lt (Array.getElem?_eq_some_iff.1 h.df).1).trans h.odf,h.gl,h.gb⟩,by omega,fun k hk e=>(extN_lt hk).trans e,fun k cur t fz e ht=>?_⟩,l6⟩
 · obtain ⟨hk,e⟩:=nw k o e
   exact all k hk (fun c=>by rw [c,h.olp] at e;cases e) (fun c=>by rw [c,h.obd] at e;cases e) (fun c=>by rw [hov k c.symm] at e;cases e)
 · rcases List.mem_append.1 hy with hy | hy
   · exact (extN_lt ((hdr.lk y hy).lt k e).2).trans (h.ol y hy k e)
   rw [List.mem_singleton.1 hy] at e
   exact (extN_lt (hx.lt k e).2).trans (hxo k e)
 · refine (all D (Array.getElem?_eq_some_iff.1 h.df).1 (fun c=>?_) (fun c=>?_) (fun c=>?_)).trans h.df
   · have:=h.df;rw [c,h.lp] at this;cases this
   · have:=h.df;rw [c,show W.heap[Bd]?=_ from hv] at this;cases this
   obtain ⟨_,cur,hcu⟩:=own_block hdr.row c.symm
   have:=h.df;rw [hcu] at this;cases this
 refine all k (blk_lt e) (cl _ _ _ _ _ _ e h.lp) (blk_ne e hv (by rcases ht with rfl | rfl <;> decide)) (fun c=>?_)
 obtain ⟨_,cur,hcu⟩:=own_block hdr.row c.symm
 exact blk_ne e hcu (by rcases ht with rfl | rfl <;> decide) rfl
open Proofs.Tryz
open G.T (lt)
def rc21 (fn D:Nat) (T:Array Value) (st:LoopState):Loop:={ state:=st,pending:=none,fn,tmps:=T,params:=#[10],assign:=as21,body:=bo21,defers:=D }
theorem rd21 (f:Fx) (E:Env) (Bd D l m fn:Nat) (u0 u1 u2 u3 u4 u6 u7 u8 u9 u10 u11 u12 u13 u14 u15 u16 u17:Value) (pre:List De) (x:De) (g:Gh) (W:World) (h:JD f E Bd D l (rc21 fn D #[u0,u1,u2,u3,u4,.pointer (some ⟨Bd,0,none⟩),u6,u7,u8,u9,u10,u11,u12,u13,u14,u15,u16,u17] .ready) pre g W) (hp:pre.length<481) (hx:W.ownsRow f.base 98 4 x.lv x.d.ls.length (lkCells x.d.ls)) (hxo:∀ k,x.lv.ownBlock=some k->g.ow k=none) (hn:∀ y∈pre,∀ k,y.lv.ownBlock=some k->x.lv.ownBlock≠some k):YieldAt Fence.wide m prog l #[.agg x.vs.toArray] W fun e W'=>e=.returned (.bool true)/\Yd (JD f E Bd D l (rc21 fn D #[u0,u1,u2,u3,u4,.pointer (some ⟨Bd,0,none⟩),u6,u7,u8,u9,u10,u11,u12,u13,u14,u15,u16,u17] .ready)) pre x g W W':=by
 obtain ⟨v,hv,hdr,hov⟩:=h.bd
 obtain ⟨va,c,rfl⟩:=row_slice hdr.row
 have hsl:isSl x.lv=true:=by obtain ⟨a,c,e⟩:=row_slice hx;rw [e];rfl
 have lW:l<W.heap.size:=(Array.getElem?_eq_some_iff.1 h.lp).1
 have hy:=run_yield (P:=prog) (args:=#[.agg x.vs.toArray]) h.lp rfl
 rw [show ((rc21 fn D #[u0,u1,u2,u3,u4,.pointer (some ⟨Bd,0,none⟩),u6,u7,u8,u9,u10,u11,u12,u13,u14,u15,u16,u17] .ready).params.zip #[Value.agg x.vs.toArray]).foldl (fun tmps (t,a)=>tmps.setIfInBounds t a) (rc21 fn D #[u0,u1,u2,u3,u4,.pointer (some ⟨Bd,0,none⟩),u6,u7,u8,u9,u10,u11,u12,u13,u14,u15,u16,u17] .ready).tmps=#[u0,u1,u2,u3,u4,.pointer (some ⟨Bd,0,none⟩),u6,u7,u8,u9,.agg x.vs.toArray,u11,u12,u13,u14,u15,u16,u17] from by simp [rc21]] at hy
 refine ⟨_,_,_,_,hy,roundIn_of_wpIn trivial ?_⟩
 clear hy
 refine a21 l m Bd x hsl W u0 u1 u2 u3 u4 u6 u7 u8 u9 u10 u11 u12 u13 u14 u15 u16 u17 _ ?_
 intro W2 hc2 hb2
 have l2:=(hb2.block l lW).trans h.lp
 refine ⟨_,run_beginRound l2 rfl,?_⟩
 have v2:Cl W2 Bd 26 [_]:=hv.below hb2 hv.lt
 have d2:=ownsRow_below hdr.row hb2
 have cl:∀ (k:Nat) cur t fz,W2.heap[k]?=some (.cells cur t fz)->k≠l:=fun k cur t fz h1 e=>by rw [e,l2] at h1;cases h1
 refine b21 l m Bd W.heap.size f.base c x hsl pre va (by omega) _ _ _ _ _ _ u6 _ _ _ _ _ _ _ _ _ _ _ _ ((World.putObj_heap_other (cl _ _ _ _ v2)).trans v2) ((World.putObj_heap_other (by omega)).trans hc2) (ownsRow_keep d2 fun k e=>World.putObj_heap_other (by obtain ⟨_,cur,hcu⟩:=own_block d2 e;exact cl _ _ _ _ hcu)) (by rw [World.putObj_size];have:=h.shp.sz;have:=hb2.size;omega) ?_
 intro a v' W5 hr hg hat
 obtain ⟨hyd,hl6⟩:=h.round hv hdr hov hb2 hx hxo hn hr hg hat
 exact ⟨_,_,run_endRound none hl6,rfl,hyd⟩
theorem below_put {n₀:Nat} (W:World) (l:Nat) (o:Obj) (hl:n₀<=l):Below n₀ W (W.putObj l o):=
 ⟨rfl,rfl,rfl,by simp,fun k hk=>World.putObj_heap_other (by omega)⟩
theorem calls_marks {P:Program} {f:FuncId} {fn:Func} {c:Code} {args:Array Value} {w:World} {R:Ending->World->Prop} (hf:P.funcs[f]?=some fn) (hb:fn.body=some c)
 (h:c.wp P (bodyPostM Fence.wide 0 P fn R) { tmps:=args++Array.replicate (fn.ntmps - args.size) undef,defers:=[] } w):Calls P f args w R:=
 callsIn_wide.1 (callsIn_of_wp_marks hf hb trivial (wpIn_wide.2 h))
theorem g21 (f:Fx) (E:Env) (hf:Fok f E) (hms:E.ms.length<=30) (Bd b1 b2:Nat) (nm:ByteArray) (g:Gh) (w:World) (u0 u1 u2 u3 u4 u6 u7 u8 u10 u11 u12 u13 u14 u15 u16 u17:Value) {Q:Exit->Act->World->Prop} (hs:Shp f g w) (hl:Lgc E g none) (hq:g.q=[]) (hbd:Cl w Bd 26 [.slice none 0 0]) (obd:g.ow Bd=none) (gbd:f.base<=Bd) (hc1:Cl w b1 9 [.string nm]) (hc2:Cl w b2 77 [.func (.func 23) #[.pointer (some ⟨f.kb,0,none⟩)] #[]]) (ho2:g.ow b2=none) (hok:nameOk nm.data.toList=true)
 (hQ:∀ D W xs v,f.base<=D->W.heap[D]?=some (.deferred (some []))->Below f.base f.w0 W->Cl W Bd 26 [v]->DRow f.base v xs W->Fin60 E nm xs->Q .normal { tmps:=#[u0,u1,u2,u3,u4,.pointer (some ⟨Bd,0,none⟩),u6,u7,u8,.func (.func 60) #[] #[.pointer (some ⟨b1,0,none⟩),.pointer (some ⟨b2,0,none⟩)],u10,u11,u12,u13,u14,u15,u16,u17],defers:=[{ target:=.collected D,args:=#[] }] } W):
 (Code.rangeFunc (.tmp 9) #[10] as21 bo21).wp prog Q { tmps:=#[u0,u1,u2,u3,u4,.pointer (some ⟨Bd,0,none⟩),u6,u7,u8,.func (.func 60) #[] #[.pointer (some ⟨b1,0,none⟩),.pointer (some ⟨b2,0,none⟩)],u10,u11,u12,u13,u14,u15,u16,u17],defers:=[] } w:=by
 refine (wpIn_wide (n:=1)).1 (wpIn_rangeFunc ?_)
 intro fn _
 have hbs:=hs.sz
 obtain ⟨r,hr⟩:∃ r,r=rc21 fn w.heap.size #[u0,u1,u2,u3,u4,.pointer (some ⟨Bd,0,none⟩),u6,u7,u8,.func (.func 60) #[] #[.pointer (some ⟨b1,0,none⟩),.pointer (some ⟨b2,0,none⟩)],u10,u11,u12,u13,u14,u15,u16,u17] .ready:=⟨_,rfl⟩
 obtain ⟨W1,hW1⟩:∃ W1,(w.alloc (.deferred (some []))).alloc (.loop r)=W1:=⟨_,rfl⟩
 have hL1:W1.heap[w.heap.size+1]?=some (.loop r):=by
  rw [<- hW1];have:=World.alloc_heap_new (w.alloc (.deferred (some []))) (.loop r);rwa [World.size_alloc] at this
 have hK1:W1.heap[w.heap.size]?=some (.deferred (some [])):=by
  rw [<- hW1];exact (Below.heap_alloc _ _ _ (by simp)).trans (World.alloc_heap_new w _)
 have hb1:Below w.heap.size w W1:=by
  rw [<- hW1];exact ((Below.refl _ w).alloc (Nat.le_refl _) _).alloc (by simp) _
 have J1:JD f E Bd w.heap.size (w.heap.size+1) r [] { g with ow:=extN g.ow w.heap.size } W1:=⟨(hs.extN _ (Nat.le_refl _)).grow hb1,⟨hl.mem,hl.inj,hl.his,hl.fin,hl.non,hl.act,hl.que,hl.qnd,hl.qgo,hl.qre,hl.wai,hl.wls⟩,hq,⟨_,hbd.below hb1 hbd.lt,⟨World.ownsRow_nil _ _ _ _,(fun x h=>by cases h),List.Pairwise.nil⟩,fun k e=>by cases e⟩,(fun x h=>by cases h),(extN_lt hbd.lt).trans obd,hL1,extN_ge (by omega),hK1,extN_ge (Nat.le_refl _),by omega,gbd⟩
 refine ⟨w.heap.size+1,[{ target:=.collected w.heap.size,args:=#[] }],W1,{ target:=.fn (.func 60) #[.pointer (some ⟨b1,0,none⟩),.pointer (some ⟨b2,0,none⟩)],args:=#[.func (.yield (w.heap.size+1)) #[] #[]] },W1,60,#[.func (.yield (w.heap.size+1)) #[] #[],.pointer (some ⟨b1,0,none⟩),.pointer (some ⟨b2,0,none⟩)],W1,?_,?_,?_,?_,fun _=>Nat.le_refl _,?_⟩
 · rw [<- hW1,hr];exact run_enterLoop_outer _ _ _ _ _
 · have hg:({ tmps:=#[u0,u1,u2,u3,u4,.pointer (some ⟨Bd,0,none⟩),u6,u7,u8,.func (.func 60) #[] #[.pointer (some ⟨b1,0,none⟩),.pointer (some ⟨b2,0,none⟩)],u10,u11,u12,u13,u14,u15,u16,u17],defers:=[] }:Act).eval (.tmp 9)=.func (.func 60) #[] #[.pointer (some ⟨b1,0,none⟩),.pointer (some ⟨b2,0,none⟩)]:=rfl
   simp only [resolve,hg]
   simp [go_sem]
 · intro f' _;trivial
 · have eg:∀ args w,(callFunc 60 args).run prog w=.ok (.enter 60 args) w:=enters_of func60 (by kernel_rfl) rfl
   simp [invoke,go_sem,eg]
 refine callsIn_wide.2 ((c60 f E hf hms _ (jdOk f E Bd w.heap.size (w.heap.size+1) r) (w.heap.size+1) 0 b1 b2 nm _ W1 J1 (hc1.below hb1 hc1.lt) (hc2.below hb1 hc2.lt) ((extN_lt hc2.lt).trans ho2) hok ?_).mono ?_)
 · intro pre x g2 W hJ hp ⟨g0,W0,hJ0,hx⟩ hxo
   obtain ⟨v0,_,hdr0,_⟩:=hJ0.bd
   rw [hr] at hJ ⊢
   exact rd21 f E Bd w.heap.size (w.heap.size+1) 0 fn u0 u1 u2 u3 u4 u6 u7 u8 (.func (.func 60) #[] #[.pointer (some ⟨b1,0,none⟩),.pointer (some ⟨b2,0,none⟩)]) u10 u11 u12 u13 u14 u15 u16 u17 pre x g2 W hJ hp (owns_mono hx hJ0.shp.sz) hxo (fun y hy k e e'=>by
    have h1:=((hdr0.lk y hy).lt k e).2
    have h2:=(hx.lt k e').1
    omega)
 rintro e W' ⟨⟨v,rfl⟩,xs,g',hJ,hfin⟩
 refine ⟨_,_,run_endLoop hJ.lp (by rw [hr];exact LoopState.noConfusion),?_⟩
 obtain ⟨v,hv,hdr,_⟩:=hJ.bd
 have cl:∀ (k:Nat) cur t fz,W'.heap[k]?=some (.cells cur t fz)->k≠w.heap.size+1:=fun k cur t fz h1 e=>by rw [e,hJ.lp] at h1;cases h1
 have rl:∀ {base e size n:Nat} {v:Value} {xs:List Value},W'.ownsRow base e size v n xs->∀ k,v.ownBlock=some k->k≠w.heap.size+1:=fun h1 k e=>by
  obtain ⟨_,cur,hcu⟩:=own_block h1 e
  exact cl _ _ _ _ hcu
 have hp:r.pending=none:=by rw [hr];rfl
 rw [hp]
 exact hQ w.heap.size _ xs v hbs ((World.putObj_heap_other (by omega)).trans hJ.df) (hJ.shp.bl.trans (below_put _ _ _ (by omega))) ((World.putObj_heap_other (cl _ _ _ _ hv)).trans hv) (hdr.keep (fun k e=>World.putObj_heap_other (rl hdr.row k e)) (fun y hy k e=>World.putObj_heap_other (rl (hdr.lk y hy) k e))) hfin
theorem c40 (nm:ByteArray) (k:Nat) (w:World):Calls prog 40 #[.string nm,.func (.func 23) #[.pointer (some ⟨k,0,none⟩)] #[]] w fun e w'=>e=.returned (.func (.func 60) #[] #[.pointer (some ⟨w.heap.size,0,none⟩),.pointer (some ⟨w.heap.size+1,0,none⟩)])/\w'=(w.alloc (.cells #[.string nm] 9)).alloc (.cells #[.func (.func 23) #[.pointer (some ⟨k,0,none⟩)] #[]] 77):=by
 go_enter func40,ntmps40
 go_wp2
 go_ret
 exact ⟨rfl,rfl⟩
theorem Fin60.ds {E:Env} {nm:ByteArray} {xs ys:List De} (h:Fin60 E nm xs) (hp:ys.Perm xs) (ho:ys.Pairwise fun a b=>lt b.d.nm a.d.nm=false):IsDs E nm (ys.map (·.d)):=by
 have hm:(ys.map (·.d)).map (·.nm)=ys.map (·.d.nm):=by simp
 have hn:(ys.map (·.d.nm)).Nodup:=(hp.map (·.d.nm)).nodup_iff.2 h.nd
 refine ⟨?_,fun d hd=>?_,fun k=>?_⟩
 · rw [hm]
   unfold AscN
   rw [List.pairwise_map]
   have hn':=List.pairwise_map.1 hn
   refine (hn'.and ho).imp ?_
   intro a b ⟨h1,h2⟩
   exact lt_tot (fun e=>h1 e.symm) h2
 · obtain ⟨y,hy,rfl⟩:=List.mem_map.1 hd
   exact h.ok y (hp.mem_iff.1 hy)
 rw [hm,(hp.map (·.d.nm)).mem_iff]
 exact h.mem k
theorem DRow.perm {base g:Nat} {v:Value} {xs ys:List De} {w w':World} (h:DRow base v xs w) (hg:v.ownBlock=some g) (hp:ys.Perm xs) (hr:w'.ownsRow base 55 8 v ys.length (deC ys)) (hk:∀ k,k<w.heap.size->k≠g->w'.heap[k]?=w.heap[k]?):DRow base v ys w':=by
 refine ⟨hr,fun y hy=>ownsRow_keep (h.lk y (hp.mem_iff.1 hy)) fun k e=>?_,(hp.pairwise_iff (fun {a b} hab k e c=>hab k c e)).2 h.ne⟩
 refine hk k ((h.lk y (hp.mem_iff.1 hy)).lt k e).2 (fun c=>?_)
 obtain ⟨_,c1,h1⟩:=own_block (h.lk y (hp.mem_iff.1 hy)) e
 obtain ⟨_,c2,h2⟩:=own_block h.row hg
 exact blk_ne h1 h2 (by decide) c
theorem c21 (f:Fx) (E:Env) (hf:Fok f E) (hms:E.ms.length<=30) (nm:ByteArray) (g:Gh) (w:World) (hs:Shp f g w) (hl:Lgc E g none) (hq:g.q=[]) (hok:nameOk nm.data.toList=true):
 Calls prog 21 #[.string nm,.func (.func 23) #[.pointer (some ⟨f.kb,0,none⟩)] #[]] w fun e w'=>∃ v,e=.returned v/\∃ xs,DRow f.base v xs w'/\IsDs E nm (xs.map (·.d))/\Below f.base f.w0 w':=by
 have hbs:=hs.sz
 have hEE:EnvOk E:=by rw [hf.hE];exact envOk hf.tr hf.pt
 obtain ⟨u0,hu0⟩:∃ u:World,u=w.alloc (.cells #[.slice none 0 0] 26):=⟨_,rfl⟩
 have HU0:=hidI hu0
 have b0:Below w.heap.size w u0:=by rw [hu0];exact (Below.refl _ _).alloc (Nat.le_refl _) _
 have z0:u0.heap.size=w.heap.size+1:=by rw [hu0];simp
 obtain ⟨u1,hu1⟩:∃ u:World,u=(u0.alloc (.cells #[.string nm] 9)).alloc (.cells #[.func (.func 23) #[.pointer (some ⟨f.kb,0,none⟩)] #[]] 77):=⟨_,rfl⟩
 have b1:Below u0.heap.size u0 u1:=by rw [hu1];exact ((Below.refl _ _).alloc (Nat.le_refl _) _).alloc (by simp) _
 have C26:Cl u1 w.heap.size 26 [.slice none 0 0]:=Cl.below (by rw [hu0];exact cl_new w _ 26) b1 (by omega)
 have C1:Cl u1 u0.heap.size 9 [.string nm]:=by rw [hu1];exact cl_old (cl_new u0 _ 9) _
 have C2:Cl u1 (u0.heap.size+1) 77 [.func (.func 23) #[.pointer (some ⟨f.kb,0,none⟩)] #[]]:=by
  rw [hu1]
  have:=cl_new (u0.alloc (.cells #[.string nm] 9)) [.func (.func 23) #[.pointer (some ⟨f.kb,0,none⟩)] #[]] 77
  rw [World.size_alloc] at this
  exact this
 have B1:Below w.heap.size w u1:=b0.trans (b1.mono (by omega))
 have HS:=hidI ((hs.extN _ (Nat.le_refl _)).grow B1)
 have HL:Hid (Lgc E { g with ow:=extN g.ow w.heap.size } none):=hidI ⟨hl.mem,hl.inj,hl.his,hl.fin,hl.non,hl.act,hl.que,hl.qnd,hl.qgo,hl.qre,hl.wai,hl.wls⟩
 have HC26:=hidI C26
 have HC1:=hidI C1
 have HC2:=hidI C2
 have HQ0:=hidI hq
 have zle:w.heap.size<=u0.heap.size:=by omega
 have h40:=c40 nm f.kb u0
 rw [<- hu1] at h40
 have HLEN:Hid (∀ xs:List De,Fin60 E nm xs->xs.length<=481):=fun xs h=>by
  have:=rch_len hEE hms h.nd (fun k hk=>(h.mem k).1 hk)
  simpa using this
 clear hs hl hq hu0 hu1 b0 b1 C26 C1 C2 B1 hEE z0
 refine calls_marks func21 rfl ?_
 simp only [ntmps21,List.size_toArray,List.length_cons,List.length_nil,Nat.reduceAdd,Nat.reduceSub,Array.replicate_succ,Array.replicate_zero,List.push_toArray,List.append_toArray,List.nil_append,List.cons_append]
 go_upto_region 2 with fail
 rw [<- HU0.out]
 clear HU0
 go_wp2_with fail
 refine h40.mono ?_
 rintro e w1 ⟨rfl,rfl⟩
 clear h40
 go_wp2_with fail
 refine g21 f E hf hms w.heap.size u0.heap.size (u0.heap.size+1) nm _ _ _ _ _ _ _ _ _ _ _ _ _ _ _ _ _ _ HS.out HL.out HQ0.out HC26.out (extN_ge (Nat.le_refl _)) hbs HC1.out HC2.out (extN_ge (by omega)) hok ?_
 intro D W xs v hD hdf hbl hcd hdr hfin
 have hne:xs≠[]:=fun e=>by have:=(hfin.mem nm).2 .base;rw [e] at this;cases this
 obtain ⟨gb,cap,hv⟩:∃ gb cap,v=.slice (some ⟨gb,0,none⟩) xs.length cap:=by
  rcases hdr.row.2 with ⟨_,h0⟩ | ⟨g',cap,cur,hv,_⟩
  · exact absurd (List.length_eq_zero_iff.1 h0) hne
  exact ⟨_,_,hv⟩
 subst hv
 have h41:=c41 f.base gb cap xs W hdr.row (fun x hx=>by obtain ⟨a,c,e⟩:=row_slice (hdr.lk x hx);rw [e];rfl) (by have:=HLEN.out xs hfin;omega)
 have d0:W.cell? ⟨w.heap.size,0,none⟩=some (.slice (some ⟨gb,0,none⟩) xs.length cap):=hcd.cell 0
 obtain ⟨hgb,cur,hcu⟩:=own_block hdr.row (k:=gb) rfl
 have HCD:=hidI hcd
 have HDF:=hidI hdf
 have HBL:=hidI hbl
 have HDR:=hidI hdr
 have HFI:=hidI hfin
 have HCU:=hidI hcu
 clear hcd hdf hbl hdr hfin hcu hne HS HL HC26 HC1 HC2 HQ0
 go_wp2_with fail
 refine h41.mono ?_
 rintro e W2 ⟨rfl,ys,hp,ho,hr,hgr⟩
 have hz:=hgr.size
 have hk:∀ k,k<W.heap.size->k≠gb->W2.heap[k]?=W.heap[k]?:=fun k h1 h2=>hgr.block k h1 (fun e=>h2 (Option.some.inj e))
 have C2:Cl W2 w.heap.size 26 [.slice (some ⟨gb,0,none⟩) xs.length cap]:=(hk _ HCD.out.lt (blk_ne HCD.out HCU.out (by decide))).trans HCD.out
 have d1:W2.cell? ⟨w.heap.size,0,none⟩=some (.slice (some ⟨gb,0,none⟩) xs.length cap):=C2.cell 0
 have dD:W2.heap[D]?=some (.deferred (some [])):=(hk _ (Array.getElem?_eq_some_iff.1 HDF.out).1 (fun c=>by have:=HDF.out;rw [c,HCU.out] at this;cases this)).trans HDF.out
 have DR:=HDR.out.perm rfl hp hr hk
 have IS:=HFI.out.ds hp ho
 have BL:Below f.base f.w0 W2:=HBL.out.trans ⟨hgr.os,hgr.tape,hgr.output,hz,fun k hk'=>hk k (by have:f.base<=W.heap.size:=HBL.out.size;omega) (by omega)⟩
 have HDR2:=hidI DR
 have HIS:=hidI IS
 have HBL2:=hidI BL
 have HDD:=hidI dD
 clear h41 hp ho hr hz hk hgr d0 DR IS BL dD C2 HCD HDF HDR HFI HCU HBL
 go_wp2
 refine ⟨by simp,.inl ⟨_,_,rfl,run_takeDeferred HDD.out,?_⟩⟩
 have cl:∀ (k:Nat) cur t fz,W2.heap[k]?=some (.cells cur t fz)->k≠D:=fun k cur t fz h1 e=>by rw [e,HDD.out] at h1;cases h1
 have rl:∀ {base e size n:Nat} {v:Value} {xs:List Value},W2.ownsRow base e size v n xs->∀ k,v.ownBlock=some k->k≠D:=fun h1 k e=>by
  obtain ⟨_,cur,hcu⟩:=own_block h1 e
  exact cl _ _ _ _ hcu
 refine ⟨_,results_tmp rfl _ _ _,?_⟩
 exact ⟨_,rfl,ys,HDR2.out.keep (fun k e=>World.putObj_heap_other (rl HDR2.out.row k e)) (fun y hy k e=>World.putObj_heap_other (rl (HDR2.out.lk y hy) k e)),HIS.out,HBL2.out.trans (below_put _ _ _ hD)⟩
