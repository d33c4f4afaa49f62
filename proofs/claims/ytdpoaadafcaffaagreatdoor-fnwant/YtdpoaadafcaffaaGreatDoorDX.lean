import Derived.Test.YtdpoaadafcaffaaGreatDoorDN
import Derived.Test.YtdpoaadafcaffaaGreatDoorDT
set_option linter.unusedVariables false
set_option maxHeartbeats 8000000
set_option maxRecDepth 100000
namespace Go.Proofs.YtdpoaadafcaffaaGreatDoor
open Go.RowKit
attribute [local go_sem] Oper.semAt_some
section
variable {l n:Nat} {P:Program} {ops:Array Oper} {Q:Exit->Act->World->Prop}
theorem Vy {rest:List Oper} {o:Oper} {a:Act} {w w':World} {v:Value} (hg:o.guard=none) (hd:∀ c,o.op≠.defer c) (hr:(execOp a.eval o).run P w=.ok (.value v) w') (h:wpListIn (Fence.wide.inRound l) n P ops Q rest (a.put o.dst v) w'):wpListIn (Fence.wide.inRound l) n P ops Q (o::rest) a w:=by
 refine wpListIn_plain hg fun K hK=>⟨fun _ _=>trivial,?_⟩;rw [show o.semAt (Fence.wide.inRound l).round a.eval=execOp a.eval o from Oper.semAt_some l _ _ hd,hr];exact hK _ _ h
theorem QF {rest:List Oper} {o:Oper} {a:Act} {w w':World} (hg:o.guard=none) (hd:∀ c,o.op≠.defer c) (hr:(execOp a.eval o).run P w=.ok .skip w') (h:wpListIn (Fence.wide.inRound l) n P ops Q rest (a.put o.dst undef) w'):wpListIn (Fence.wide.inRound l) n P ops Q (o::rest) a w:=by
 refine wpListIn_plain hg fun K hK=>⟨fun _ _=>trivial,?_⟩;rw [show o.semAt (Fence.wide.inRound l).round a.eval=execOp a.eval o from Oper.semAt_some l _ _ hd,hr];exact hK _ _ h
theorem jG {rest:List Oper} {o:Oper} {a:Act} {w:World} (hg:o.guard=none) (ty:TypeId) (x y:Operand) (ho:o.op=.store ty x y) {B j:Nat} {t:TypeId} {xs vs:List Value} (hx:a.eval x=.pointer (some ⟨B,j,none⟩)) (hy:a.eval y=.agg vs.toArray) (hB:Cl w B t xs) (hl:j+vs.length<=xs.length) (h1:∀ v∈vs,v.oneCell'=true) (hi:(P.info? ty).map (·.size)=some vs.length)
 (hK:∀ w',Cl w' B t (Ed xs j vs)->Hm B w w'->wpListIn (Fence.wide.inRound l) n P ops Q rest (a.put o.dst undef) w'):wpListIn (Fence.wide.inRound l) n P ops Q (o::rest) a w:=
 QF hg (fun c e=>by rw [ho] at e;cases e) (Nu ty x y ho hx hy hB hl h1 hi) (hK _ (hB.Py hl) (oq _ _ _ _))
theorem nG {rest:List Oper} {o:Oper} {a:Act} {w:World} (hg:o.guard=none) (s x:Operand) (t:TypeId) (ho:o.op=.call { callee:=.builtin .append,args:=#[s,x],argTypes:=#[t,t] })
 (base:Nat) (e:TypeId) (size:Nat) (ht:P.underlying t=some (.slice e)) (sN:Inf P e size) (hsz:0<size) (v:Value) (k:Nat) (xs:List Value) (hs:a.eval s=v) (hown:w.ownsRow base e size v k xs) (sv:Value) (m:Nat) (news:List Value) (hx:a.eval x=sv) (hsrc:Src w sv size m news) (h1:∀ u∈news,u.oneCell'=true) (hn:k+m<=1000000) (hbase:base<=w.heap.size)
 (h:∀ v' w',w'.ownsRow base e size v' (k+m) (xs++news)->w.grownBy w' v.ownBlock->(v'.ownBlock=v.ownBlock\/v'.ownBlock=some w.heap.size)->wpListIn (Fence.wide.inRound l) n P ops Q rest (a.put o.dst v') w'):wpListIn (Fence.wide.inRound l) n P ops Q (o::rest) a w:=by
 obtain ⟨v',w',hr,h2,h3,h5⟩:=Bl w base t o.type e size ht sN hsz v k xs hown sv m news hsrc h1 hn hbase;refine Vy hg (fun c e=>by rw [ho] at e;cases e) (v:=v') (w':=w') ?_ (h v' w' h2 h3 h5);unfold execOp;simp only [ho,resolve,invoke,builtin,Sem.run_bind,Sem.run_pure,Result.andThen_ok,List.map_toArray,List.map_cons,List.map_nil,hs,hx,hr]
end
def SC:Code:=Code.region 3 #[⟨some 6,.alloc 38,0, "l4_want.go:111",#[],none⟩,⟨none,.store 38 (.tmp 6) (.tmp 10),0, "l4_want.go:111",#[⟨0,.data⟩,⟨0,.phase⟩],none⟩] false
def OD:Code:=Code.block 1 (Code.region 4 #[⟨some 11,.load 28 (.tmp 5),28, "l4_want.go:112",#[],none⟩,⟨some 12,.load 38 (.tmp 6),38, "l4_want.go:112",#[],none⟩,⟨some 13,.buildSlice 28 1 #[(0,.tmp 12)],28, "l4_want.go:112",#[⟨1,.data⟩],none⟩,⟨some 14,.call ⟨.builtin .append,#[.tmp 11,.tmp 13],#[28,28]⟩,28, "l4_want.go:112",#[⟨0,.data⟩,⟨2,.data⟩],none⟩,⟨none,.store 28 (.tmp 5) (.tmp 14),0, "l4_want.go:112",#[⟨3,.data⟩,⟨3,.chain⟩,⟨0,.phase⟩,⟨1,.phase⟩,⟨2,.phase⟩,⟨3,.phase⟩],none⟩] false)
theorem a21 (l m Bd:Nat) (x:De) (hx:Bp x.lv=true) (W:World) (u0 u1 u2 u3 u4 u6 u7 u8 u9 u10 u11 u12 u13 u14 u15 u16 u17:Value) (K:Act->World->Prop) (hK:∀ W2,Cl W2 W.heap.size 38 x.vs->Below W.heap.size W W2->K { tmps:=#[u0,u1,u2,u3,u4,.pointer (some ⟨Bd,0,none⟩),.pointer (some ⟨W.heap.size,0,none⟩),u7,u8,u9,.agg x.vs.toArray,u11,u12,u13,u14,u15,u16,u17],defers:=[] } W2):
 SC.wpIn (Fence.wide.inRound l) m Tryz.prog (Exit.then K (fun _ _ _=>False)) { tmps:=#[u0,u1,u2,u3,u4,.pointer (some ⟨Bd,0,none⟩),u6,u7,u8,u9,.agg x.vs.toArray,u11,u12,u13,u14,u15,u16,u17],defers:=[] } W:=by
 unfold SC;have hxo:x.lv.oneCell'=true:=by obtain ⟨a,n,c,e⟩:=Nh hx;rw [e];rfl
 gi_wp2_with (refine jG rfl 38 _ _ rfl (B:=W.heap.size) (j:=0) rfl (vs:=x.vs) rfl (F3 W [.string ⟨#[]⟩,.bool false,.string ⟨#[]⟩,.string ⟨#[]⟩,.string ⟨#[]⟩,.slice none 0 0,.int .i64 0,.string ⟨#[]⟩] 38) (by simp [De.vs]) (Ip _ hxo) I1 ?_;intro w2 hc2 ho2)
 exact hK _ hc2 (bA.trans (ho2.below Q8))
theorem TK (l m Bd B6 base c:Nat) (x:De) (hx:Bp x.lv=true) (pre:List De) (va:Option Addr) (hp:pre.length<=481) (W:World) (u0 u1 u2 u3 u4 u6 u7 u8 u9 u10 u11 u12 u13 u14 u15 u16 u17:Value) (Q:Exit->Act->World->Prop) (hd:Cl W Bd 28 [.slice va pre.length c]) (h6:Cl W B6 38 x.vs) (hr:W.ownsRow base 38 8 (.slice va pre.length c) pre.length (Co pre)) (hb:base<=W.heap.size)
 (hQ:∀ a v' W5,W5.ownsRow base 38 8 v' (pre.length+1) (Co pre++x.vs)->(W.alloc (.cells x.vs.toArray 38)).grownBy W5 (Value.slice va pre.length c).ownBlock->(v'.ownBlock=(Value.slice va pre.length c).ownBlock\/v'.ownBlock=some (W.alloc (.cells x.vs.toArray 38)).heap.size)->Q .normal a (W5.setCell ⟨Bd,0,none⟩ v')):
 OD.wpIn (Fence.wide.inRound l) m Tryz.prog Q { tmps:=#[u0,u1,u2,u3,u4,.pointer (some ⟨Bd,0,none⟩),.pointer (some ⟨B6,0,none⟩),u7,u8,u9,u10,u11,u12,u13,u14,u15,u16,u17],defers:=[] } W:=by
 unfold OD;have hxo:x.lv.oneCell'=true:=by obtain ⟨a,n,c,e⟩:=Nh hx;rw [e];rfl
 have hal:Below W.heap.size W (W.alloc (.cells x.vs.toArray 38)):=bA;have LQ:=Q0 (ownsRow_below hr hal);have G4:Hid (Cl (W.alloc (.cells x.vs.toArray 38)) W.heap.size 38 x.vs):=Q0 (F3 W _ 38);have hbs:base<=(W.alloc (.cells x.vs.toArray 38)).heap.size:=X3;have d0:W.cell? ⟨Bd,0,none⟩=some (.slice va pre.length c):=hd.cell 0;have HD:=Q0 hd;have H6:=Q0 h6;have HX:=Q0 hxo;have HQ:=Q0 hQ;have HBD:Hid (∀ W5:World,(W.alloc (.cells x.vs.toArray 38)).grownBy W5 (Value.slice va pre.length c).ownBlock->Cl W5 Bd 28 [.slice va pre.length c]):=fun W5 hg=>(hd.below hal hd.lt).gb hg (fun e=>by
  obtain ⟨_,cur,OL⟩:=J2 LQ.out e.symm;exact j6 OL (hd.below hal hd.lt) J3 rfl)
 obtain ⟨⟨xn,md,⟨m1,m2,m3⟩,ls,⟨rc,rt⟩,wt⟩,lv⟩:=x;obtain ⟨la,ln,lc,rfl⟩:=Nh hx;clear hd h6 hr hxo hal hQ
 gi_wp2_with (first | (refine Vy rfl (fun _ e=>by cases e) (Vd 38 _ rfl (B:=B6) (j:=0) (cs:=[.string xn,.bool md,.string m1,.string m2,.string m3,.slice la ln lc,.int .i64 rc,.string rt]) rfl (fun q v e=>by rw [Nat.zero_add];exact (H6.out.cell q).trans e) Tryz.underlying38 rfl I1) ?_) | (refine nG rfl _ _ 28 rfl base 38 8 Tryz.underlying28 JB J3 (.slice va pre.length c) pre.length (Co pre) rfl LQ.out _ 1 [.string xn,.bool md,.string m1,.string m2,.string m3,.slice la ln lc,.int .i64 rc,.string rt] rfl (.inr ⟨⟨W.heap.size,0,none⟩,1,rfl,rfl,r_ G4.out⟩) (by intro v hv;simp at hv;rcases hv with rfl | rfl | rfl | rfl | rfl | rfl | rfl | rfl <;> rfl) O0 hbs ?_;intro v' w9 O9 g9 at9;have xP:=Q0 O9;have SN:=Q0 g9;have HA9:=Q0 at9;obtain ⟨vf,vg,hvf⟩:=X9 O9;subst hvf;have d1:w9.cell? ⟨Bd,0,none⟩=some (.slice va pre.length c):=(HBD.out w9 g9).cell 0;have d2:w9.frozen? ⟨Bd,0,none⟩=false:=(HBD.out w9 g9).opn 0;clear O9 g9 at9))
 exact HQ.out _ _ _ xP.out SN.out HA9.out
end Go.Proofs.YtdpoaadafcaffaaGreatDoor
namespace Go.Proofs.YtdpoaadafcaffaaGreatDoor
open Go.RowKit
structure JD (f:Fx) (E:Env) (Bd D l:Nat) (r:Loop) (pre:List De) (g:Gh) (W:World):Prop where
 RP:U_ f g W
 pU:Md E g none
 q:g.q=[]
 bd:∃ v,Cl W Bd 28 [v]/\V_ f.base v pre W/\∀ k,v.ownBlock=some k->g.ow k=none
 ol:∀ x∈pre,∀ k,x.lv.ownBlock=some k->g.ow k=none
 UY:g.ow Bd=none
 lp:W.heap[l]?=some (.loop r)
 olp:g.ow l=none
 df:W.heap[D]?=some (.deferred (some []))
 odf:g.ow D=none
 gl:f.base<=l
 gb:f.base<=Bd
theorem II (f:Fx) (E:Env) (Bd D l:Nat) (r:Loop):zG f E (JD f E Bd D l r) where
 st _ _ _ h:=⟨h.RP,h.pU,h.q⟩
 mv pre g W g' W' h hs hl hq hz hb hk ho:=by
  have nt:∀ (k:Nat) o,W.heap[k]?=some o->(∀ cur fz,o≠.cells cur 9 fz)->g.ow k=none->W'.heap[k]?=W.heap[k]?:=fun k o e h9 e'=>hk k (Array.getElem?_eq_some_iff.1 e).1 e' (fun cur fz c=>by rw [e] at c;exact h9 cur fz (Option.some.inj c));obtain ⟨v,hv,hdr,hov⟩:=h.bd;refine ⟨hs,hl,hq,⟨v,(nt _ _ hv (by intro _ _ c;cases c) h.UY).trans hv,hdr.keep (fun k e=>?_) (fun x hx k e=>?_),fun k e=>ho k (hdr.row.lt k e).2 (hov k e)⟩,fun x hx k e=>ho k ((hdr.lk x hx).lt k e).2 (h.ol x hx k e),ho _ hv.lt h.UY,(nt _ _ h.lp (by intro _ _ c;cases c) h.olp).trans h.lp,ho _ (Array.getElem?_eq_some_iff.1 h.lp).1 h.olp,(nt _ _ h.df (by intro _ _ c;cases c) h.odf).trans h.df,ho _ (Array.getElem?_eq_some_iff.1 h.df).1 h.odf,h.gl,h.gb⟩
  · obtain ⟨_,cur,OL⟩:=J2 hdr.row e
    exact nt _ _ OL (by intro _ _ c;cases c) (hov k e)
  obtain ⟨_,cur,OL⟩:=J2 (hdr.lk x hx) e;exact nt _ _ OL (by intro _ _ c;cases c) (h.ol x hx k e)
theorem JD.round {f:Fx} {E:Env} {Bd D l:Nat} {r r':Loop} {pre:List De} {x:De} {g:Gh} {W W2 W5:World} {v v':Value} (h:JD f E Bd D l r pre g W) (hv:Cl W Bd 28 [v]) (hdr:V_ f.base v pre W) (hov:∀ k,v.ownBlock=some k->g.ow k=none) (hb:Below W.heap.size W W2) (hx:W.ownsRow f.base 45 4 x.lv x.d.ls.length (I4 x.d.ls)) (hxo:∀ k,x.lv.ownBlock=some k->g.ow k=none) (hn:∀ y∈pre,∀ k,y.lv.ownBlock=some k->x.lv.ownBlock≠some k)
 (hr:W5.ownsRow f.base 38 8 v' (pre.length+1) (Co pre++x.vs)) (hg:((W2.putObj l (.loop r')).alloc (.cells x.vs.toArray 38)).grownBy W5 v.ownBlock) (hat:v'.ownBlock=v.ownBlock\/v'.ownBlock=some ((W2.putObj l (.loop r')).alloc (.cells x.vs.toArray 38)).heap.size):
 Yd (JD f E Bd D l r) pre x g W ((W5.setCell ⟨Bd,0,none⟩ v').putObj l (.loop r))/\(W5.setCell ⟨Bd,0,none⟩ v').heap[l]?=some (.loop r'):=by
 have hs:=h.RP;have hl:=h.pU;have lW:=(Array.getElem?_eq_some_iff.1 h.lp).1;have l2:=(hb.block l lW).trans h.lp;have lt2:=(Array.getElem?_eq_some_iff.1 l2).1;obtain ⟨W3,hW3⟩:∃ u,u=W2.putObj l (.loop r'):=⟨_,rfl⟩;rw [<- hW3] at hg hat;have z3:W3.heap.size=W2.heap.size:=by rw [hW3];simp
 have s3:∀ k,k≠l->W3.heap[k]?=W2.heap[k]?:=fun k hk=>by rw [hW3];exact World.putObj_heap_other hk
 have l3:W3.heap[l]?=some (.loop r'):=by rw [hW3];exact World.putObj_heap_same lt2
 obtain ⟨W4,hW4⟩:∃ u,u=W3.alloc (.cells x.vs.toArray 38):=⟨_,rfl⟩;rw [<- hW4] at hg hat;have b4:Below W3.heap.size W3 W4:=by rw [hW4];exact bA
 have cl:∀ (u:World) (k:Nat) cur t fz rr,u.heap[k]?=some (.cells cur t fz)->u.heap[l]?=some (.loop rr)->k≠l:=fun u k cur t fz rr h1 h2 e=>by rw [e,h2] at h1;cases h1
 have d2:=hdr.below hb;have x2:=ownsRow_below hx hb;have rl:∀ {u:World} {base e size n:Nat} {v:Value} {xs:List Value} {rr:Loop},u.ownsRow base e size v n xs->u.heap[l]?=some (.loop rr)->∀ k,v.ownBlock=some k->k≠l:=fun h1 h2 k e=>by
  obtain ⟨_,cur,OL⟩:=J2 h1 e;exact cl _ _ _ _ _ _ OL h2
 have d3:=d2.keep (fun k e=>s3 k (rl d2.row l2 k e)) (fun y hy k e=>s3 k (rl (d2.lk y hy) l2 k e));have x3:=Y0 x2 (fun k e=>s3 k (rl x2 l2 k e));have v2:=hv.below hb hv.lt;have v3:Cl W3 Bd 28 [v]:=(s3 _ (cl _ _ _ _ _ _ v2 l2)).trans v2;have d4:=d3.below b4;have x4:=ownsRow_below x3 b4;have v4:=v3.below b4 v3.lt;have d5:=d4.snoc x4 hn hr hg;have v5:Cl W5 Bd 28 [v]:=v4.gb hg (fun e=>by
  obtain ⟨_,cur,OL⟩:=J2 d4.row e.symm;exact j6 OL v4 J3 rfl)
 have l4:=(b4.block l O0).trans l3;have z4:W3.heap.size<=W4.heap.size:=b4.size;have z5:W4.heap.size<=W5.heap.size:=hg.size;have z2:W.heap.size<=W2.heap.size:=hb.size;have l5:=(hg.block l O0 (fun e=>rl d4.row l4 l e.symm rfl)).trans l4;obtain ⟨W6,hW6⟩:∃ u,u=W5.setCell ⟨Bd,0,none⟩ v':=⟨_,rfl⟩;rw [<- hW6];have o6:Hm Bd W5 W6:=by rw [hW6];exact F8 _ _ _ _
 have v6:Cl W6 Bd 28 [v']:=by rw [hW6];exact v5.set 0 v'
 have l6:=(o6.block l (fun e=>cl _ _ _ _ _ _ v5 l5 e.symm)).trans l5;have d6:V_ f.base v' (pre++[x]) W6:=d5.keep (fun k e=>o6.block k (fun c=>by
  obtain ⟨_,cur,OL⟩:=J2 d5.row e;exact j6 OL v5 J3 c)) (fun y hy k e=>o6.block k (fun c=>by
  obtain ⟨_,cur,OL⟩:=J2 (d5.lk y hy) e;exact j6 OL v5 J3 c))
 have lt6:=(Array.getElem?_eq_some_iff.1 l6).1;obtain ⟨W7,PW⟩:∃ u,u=W6.putObj l (.loop r):=⟨_,rfl⟩;have s7:∀ k,k≠l->W7.heap[k]?=W6.heap[k]?:=fun k hk=>by rw [PW];exact World.putObj_heap_other hk
 have l7:W7.heap[l]?=some (.loop r):=by rw [PW];exact World.putObj_heap_same lt6
 have z7:W7.heap.size=W6.heap.size:=by rw [PW];simp
 have z6:W6.heap.size=W5.heap.size:=o6.size;have d7:=d6.keep (fun k e=>s7 k (rl d6.row l6 k e)) (fun y hy k e=>s7 k (rl (d6.lk y hy) l6 k e));have v7:Cl W7 Bd 28 [v']:=(s7 _ (cl _ _ _ _ _ _ v6 l6)).trans v6;have all:∀ k,k<W.heap.size->k≠l->k≠Bd->some k≠v.ownBlock->W7.heap[k]?=W.heap[k]?:=fun k hk h1 h2 h3=>(s7 k h1).trans ((o6.block k h2).trans ((hg.block k O0 h3).trans ((b4.block k O0).trans ((s3 k h1).trans (hb.block k hk)))));have nw:∀ k o,X7 g.ow W.heap.size k=some o->k<W.heap.size/\g.ow k=some o:=fun k o e=>by
  by_cases hk:k<W.heap.size
  · exact ⟨hk,(I5 hk).symm.trans e⟩
  rw [L8 O0] at e;cases e
 have a1L:∀ k,v'.ownBlock=some k->X7 g.ow W.heap.size k=none:=fun k e=>by
  rcases hat with h1 | h1
  · rw [h1] at e
    exact (I5 (hdr.row.lt k e).2).trans (hov k e)
  rw [h1] at e;cases e;exact L8 O0
 have hbl:Below f.base W W7:=by
  refine ⟨?_,?_,?_,O0,fun k hk=>?_⟩
  · rw [PW];show W6.os=_;rw [o6.os,hg.os,b4.os,hW3];exact hb.os
  · rw [PW];show W6.tape=_;rw [o6.tape,hg.tape,b4.tape,hW3];exact hb.tape
  · rw [PW];show W6.output=_;rw [o6.output,hg.output,b4.output,hW3];exact hb.output
  have h1:=h.gl;have h2:=h.gb;exact all k (by have:=hs.sz;omega) O0 O0 (fun e=>by have:=(hdr.row.lt k e.symm).1;omega)
 rw [<- PW];refine ⟨⟨{ g with ow:=X7 g.ow W.heap.size },⟨(hs.X7 _ Q8).same h.q (hs.bl.trans hbl) (fun k o e=>?_),⟨hl.mem,hl.inj,hl.his,hl.fin,hl.non,hl.act,hl.iM,hl.qN,hl.EN,hl.FN,hl.VL,hl.iN⟩,h.q,⟨v',v7,d7,a1L⟩,fun y hy k e=>?_,(I5 hv.lt).trans h.UY,l7,(I5 lW).trans h.olp,?_,(I5 (Array.getElem?_eq_some_iff.1 h.df).1).trans h.odf,h.gl,h.gb⟩,O0,fun k hk e=>(I5 hk).trans e,fun k cur t fz e ht=>?_⟩,l6⟩
 · obtain ⟨hk,e⟩:=nw k o e
   exact all k hk (fun c=>by rw [c,h.olp] at e;cases e) (fun c=>by rw [c,h.UY] at e;cases e) (fun c=>by rw [hov k c.symm] at e;cases e)
 · rcases List.mem_append.1 hy with hy | hy
   · exact (I5 ((hdr.lk y hy).lt k e).2).trans (h.ol y hy k e)
   rw [List.mem_singleton.1 hy] at e;exact (I5 (hx.lt k e).2).trans (hxo k e)
 · refine (all D (Array.getElem?_eq_some_iff.1 h.df).1 (fun c=>?_) (fun c=>?_) (fun c=>?_)).trans h.df
   · have:=h.df;rw [c,h.lp] at this;cases this
   · have:=h.df;rw [c,show W.heap[Bd]?=_ from hv] at this;cases this
   obtain ⟨_,cur,OL⟩:=J2 hdr.row c.symm;have:=h.df;rw [OL] at this;cases this
 refine all k (F4 e) (cl _ _ _ _ _ _ e h.lp) (j6 e hv (by rcases ht with rfl | rfl <;> decide)) fun c=>?_;obtain ⟨_,cur,OL⟩:=J2 hdr.row c.symm;exact j6 e OL (by rcases ht with rfl | rfl <;> decide) rfl
open Proofs.Tryz
open G.T (lt)
def ay (fn D:Nat) (T:Array Value) (st:LoopState):Loop:={ state:=st,pending:=none,fn,tmps:=T,params:=#[10],assign:=SC,body:=OD,defers:=D }
theorem VI (f:Fx) (E:Env) (Bd D l m fn:Nat) (u0 u1 u2 u3 u4 u6 u7 u8 u9 u10 u11 u12 u13 u14 u15 u16 u17:Value) (pre:List De) (x:De) (g:Gh) (W:World) (h:JD f E Bd D l (ay fn D #[u0,u1,u2,u3,u4,.pointer (some ⟨Bd,0,none⟩),u6,u7,u8,u9,u10,u11,u12,u13,u14,u15,u16,u17] .ready) pre g W) (hp:pre.length<481) (hx:W.ownsRow f.base 45 4 x.lv x.d.ls.length (I4 x.d.ls)) (hxo:∀ k,x.lv.ownBlock=some k->g.ow k=none) (hn:∀ y∈pre,∀ k,y.lv.ownBlock=some k->x.lv.ownBlock≠some k):YieldAt Fence.wide m prog l #[.agg x.vs.toArray] W fun e W'=>e=.returned (.bool true)/\Yd (JD f E Bd D l (ay fn D #[u0,u1,u2,u3,u4,.pointer (some ⟨Bd,0,none⟩),u6,u7,u8,u9,u10,u11,u12,u13,u14,u15,u16,u17] .ready)) pre x g W W':=by
 obtain ⟨v,hv,hdr,hov⟩:=h.bd;obtain ⟨va,c,rfl⟩:=X9 hdr.row;have hsl:Bp x.lv=true:=by obtain ⟨a,c,e⟩:=X9 hx;rw [e];rfl
 have lW:=(Array.getElem?_eq_some_iff.1 h.lp).1;have hy:=run_yield (P:=prog) (args:=#[.agg x.vs.toArray]) h.lp rfl;rw [show ((ay fn D #[u0,u1,u2,u3,u4,.pointer (some ⟨Bd,0,none⟩),u6,u7,u8,u9,u10,u11,u12,u13,u14,u15,u16,u17] .ready).params.zip #[Value.agg x.vs.toArray]).foldl (fun tmps (t,a)=>tmps.setIfInBounds t a) (ay fn D #[u0,u1,u2,u3,u4,.pointer (some ⟨Bd,0,none⟩),u6,u7,u8,u9,u10,u11,u12,u13,u14,u15,u16,u17] .ready).tmps=#[u0,u1,u2,u3,u4,.pointer (some ⟨Bd,0,none⟩),u6,u7,u8,u9,.agg x.vs.toArray,u11,u12,u13,u14,u15,u16,u17] from by simp [ay]] at hy;refine ⟨_,_,_,_,hy,roundIn_of_wpIn trivial ?_⟩;clear hy;refine a21 l m Bd x hsl W u0 u1 u2 u3 u4 u6 u7 u8 u9 u10 u11 u12 u13 u14 u15 u16 u17 _ ?_;intro W2 hc2 hb2;have l2:=(hb2.block l lW).trans h.lp;refine ⟨_,run_beginRound l2 rfl,?_⟩;have v2:Cl W2 Bd 28 [_]:=hv.below hb2 hv.lt;have d2:=ownsRow_below hdr.row hb2;have cl:∀ (k:Nat) cur t fz,W2.heap[k]?=some (.cells cur t fz)->k≠l:=fun k cur t fz h1 e=>by rw [e,l2] at h1;cases h1
 refine TK l m Bd W.heap.size f.base c x hsl pre va O0 _ _ _ _ _ _ u6 _ _ _ _ _ _ _ _ _ _ _ _ ((World.putObj_heap_other (cl _ _ _ _ v2)).trans v2) ((World.putObj_heap_other O0).trans hc2) (Y0 d2 fun k e=>World.putObj_heap_other (by obtain ⟨_,cur,OL⟩:=J2 d2 e;exact cl _ _ _ _ OL)) (by rw [World.putObj_size];have:=h.RP.sz;have:=hb2.size;omega) ?_;intro a v' W5 hr hg hat;obtain ⟨hyd,hl6⟩:=h.round hv hdr hov hb2 hx hxo hn hr hg hat;exact ⟨_,_,run_endRound none hl6,rfl,hyd⟩
theorem Vn {n₀:Nat} (W:World) (l:Nat) (o:Obj) (hl:n₀<=l):Below n₀ W (W.putObj l o):=
 ⟨rfl,rfl,rfl,U0,fun k hk=>World.putObj_heap_other O0⟩
theorem Vs {P:Program} {f:FuncId} {fn:Func} {c:Code} {args:Array Value} {w:World} {R:Ending->World->Prop} (hf:P.funcs[f]?=some fn) (hb:fn.body=some c)
 (h:c.wp P (bodyPostM Fence.wide 0 P fn R) { tmps:=args++Array.replicate (fn.ntmps - args.size) undef,defers:=[] } w):Calls P f args w R:=
 callsIn_wide.1 (callsIn_of_wp_marks hf hb trivial (wpIn_wide.2 h))
theorem g21 (f:Fx) (E:Env) (hf:Rx f E) (hms:E.ms.length<=30) (Bd b1 b2:Nat) (nm:ByteArray) (g:Gh) (w:World) (u0 u1 u2 u3 u4 u6 u7 u8 u10 u11 u12 u13 u14 u15 u16 u17:Value) {Q:Exit->Act->World->Prop} (hs:U_ f g w) (hl:Md E g none) (hq:g.q=[]) (hbd:Cl w Bd 28 [.slice none 0 0]) (UY:g.ow Bd=none) (gbd:f.base<=Bd) (hc1:Cl w b1 9 [.string nm]) (hc2:Cl w b2 77 [.func (.func 20) #[.pointer (some ⟨f.kb,0,none⟩)] #[]]) (ho2:g.ow b2=none) (hok:Y1 nm.data.toList=true)
 (hQ:∀ D W xs v,f.base<=D->W.heap[D]?=some (.deferred (some []))->Below f.base f.w0 W->Cl W Bd 28 [v]->V_ f.base v xs W->uo E nm xs->Q .normal { tmps:=#[u0,u1,u2,u3,u4,.pointer (some ⟨Bd,0,none⟩),u6,u7,u8,.func (.func 67) #[] #[.pointer (some ⟨b1,0,none⟩),.pointer (some ⟨b2,0,none⟩)],u10,u11,u12,u13,u14,u15,u16,u17],defers:=[{ target:=.collected D,args:=#[] }] } W):
 (Code.rangeFunc (.tmp 9) #[10] SC OD).wp prog Q { tmps:=#[u0,u1,u2,u3,u4,.pointer (some ⟨Bd,0,none⟩),u6,u7,u8,.func (.func 67) #[] #[.pointer (some ⟨b1,0,none⟩),.pointer (some ⟨b2,0,none⟩)],u10,u11,u12,u13,u14,u15,u16,u17],defers:=[] } w:=by
 refine (wpIn_wide (n:=1)).1 (wpIn_rangeFunc ?_);intro fn _;have hbs:=hs.sz;obtain ⟨r,hr⟩:∃ r,r=ay fn w.heap.size #[u0,u1,u2,u3,u4,.pointer (some ⟨Bd,0,none⟩),u6,u7,u8,.func (.func 67) #[] #[.pointer (some ⟨b1,0,none⟩),.pointer (some ⟨b2,0,none⟩)],u10,u11,u12,u13,u14,u15,u16,u17] .ready:=⟨_,rfl⟩;obtain ⟨W1,hW1⟩:∃ W1,(w.alloc (.deferred (some []))).alloc (.loop r)=W1:=⟨_,rfl⟩;have hL1:W1.heap[w.heap.size+1]?=some (.loop r):=by
  rw [<- hW1];have:=World.alloc_heap_new (w.alloc (.deferred (some []))) (.loop r);rwa [World.size_alloc] at this
 have hK1:W1.heap[w.heap.size]?=some (.deferred (some [])):=by
  rw [<- hW1];exact (Below.heap_alloc _ _ _ U0).trans (World.alloc_heap_new w _)
 have hb1:Below w.heap.size w W1:=by
  rw [<- hW1];exact ((Below.refl _ w).alloc Q8 _).alloc U0 _
 have J1:JD f E Bd w.heap.size (w.heap.size+1) r [] { g with ow:=X7 g.ow w.heap.size } W1:=⟨(hs.X7 _ Q8).grow hb1,⟨hl.mem,hl.inj,hl.his,hl.fin,hl.non,hl.act,hl.iM,hl.qN,hl.EN,hl.FN,hl.VL,hl.iN⟩,hq,⟨_,hbd.below hb1 hbd.lt,⟨World.ownsRow_nil _ _ _ _,(fun x h=>by cases h),List.Pairwise.nil⟩,fun k e=>by cases e⟩,(fun x h=>by cases h),(I5 hbd.lt).trans UY,hL1,L8 O0,hK1,L8 Q8,O0,gbd⟩;refine ⟨w.heap.size+1,[{ target:=.collected w.heap.size,args:=#[] }],W1,{ target:=.fn (.func 67) #[.pointer (some ⟨b1,0,none⟩),.pointer (some ⟨b2,0,none⟩)],args:=#[.func (.yield (w.heap.size+1)) #[] #[]] },W1,67,#[.func (.yield (w.heap.size+1)) #[] #[],.pointer (some ⟨b1,0,none⟩),.pointer (some ⟨b2,0,none⟩)],W1,?_,?_,?_,?_,fun _=>Nat.le_refl _,?_⟩
 · rw [<- hW1,hr];exact run_enterLoop_outer _ _ _ _ _
 · have hg:({ tmps:=#[u0,u1,u2,u3,u4,.pointer (some ⟨Bd,0,none⟩),u6,u7,u8,.func (.func 67) #[] #[.pointer (some ⟨b1,0,none⟩),.pointer (some ⟨b2,0,none⟩)],u10,u11,u12,u13,u14,u15,u16,u17],defers:=[] }:Act).eval (.tmp 9)=.func (.func 67) #[] #[.pointer (some ⟨b1,0,none⟩),.pointer (some ⟨b2,0,none⟩)]:=rfl
   simp only [resolve,hg];simp [go_sem]
 · intro f' _;trivial
 · have eg:∀ args w,(callFunc 67 args).run prog w=.ok (.enter 67 args) w:=enters_of func67 I1 rfl
   simp [invoke,go_sem,eg]
 refine callsIn_wide.2 ((bL f E hf hms _ (II f E Bd w.heap.size (w.heap.size+1) r) (w.heap.size+1) 0 b1 b2 nm _ W1 J1 (hc1.below hb1 hc1.lt) (hc2.below hb1 hc2.lt) ((I5 hc2.lt).trans ho2) hok ?_).mono ?_)
 · intro pre x g2 W hJ hp ⟨g0,W0,hJ0,hx⟩ hxo
   obtain ⟨v0,_,a1M,_⟩:=hJ0.bd;rw [hr] at hJ ⊢;exact VI f E Bd w.heap.size (w.heap.size+1) 0 fn u0 u1 u2 u3 u4 u6 u7 u8 (.func (.func 67) #[] #[.pointer (some ⟨b1,0,none⟩),.pointer (some ⟨b2,0,none⟩)]) u10 u11 u12 u13 u14 u15 u16 u17 pre x g2 W hJ hp (V4 hx hJ0.RP.sz) hxo (fun y hy k e e'=>by
    have h1:=((a1M.lk y hy).lt k e).2;have h2:=(hx.lt k e').1;omega)
 rintro e W' ⟨⟨v,rfl⟩,xs,g',hJ,hfin⟩;refine ⟨_,_,run_endLoop hJ.lp (by rw [hr];exact LoopState.noConfusion),?_⟩;obtain ⟨v,hv,hdr,_⟩:=hJ.bd;have cl:∀ (k:Nat) cur t fz,W'.heap[k]?=some (.cells cur t fz)->k≠w.heap.size+1:=fun k cur t fz h1 e=>by rw [e,hJ.lp] at h1;cases h1
 have rl:∀ {base e size n:Nat} {v:Value} {xs:List Value},W'.ownsRow base e size v n xs->∀ k,v.ownBlock=some k->k≠w.heap.size+1:=fun h1 k e=>by
  obtain ⟨_,cur,OL⟩:=J2 h1 e;exact cl _ _ _ _ OL
 have hp:r.pending=none:=by rw [hr];rfl
 rw [hp];exact hQ w.heap.size _ xs v hbs ((World.putObj_heap_other O0).trans hJ.df) (hJ.RP.bl.trans (Vn _ _ _ O0)) ((World.putObj_heap_other (cl _ _ _ _ hv)).trans hv) (hdr.keep (fun k e=>World.putObj_heap_other (rl hdr.row k e)) (fun y hy k e=>World.putObj_heap_other (rl (hdr.lk y hy) k e))) hfin
theorem xL (nm:ByteArray) (k:Nat) (w:World):Calls prog 35 #[.string nm,.func (.func 20) #[.pointer (some ⟨k,0,none⟩)] #[]] w fun e w'=>e=.returned (.func (.func 67) #[] #[.pointer (some ⟨w.heap.size,0,none⟩),.pointer (some ⟨w.heap.size+1,0,none⟩)])/\w'=(w.alloc (.cells #[.string nm] 9)).alloc (.cells #[.func (.func 20) #[.pointer (some ⟨k,0,none⟩)] #[]] 77):=by
 go_enter func35,ntmps35;go_wp2;go_ret;exact ⟨rfl,rfl⟩
theorem uo.ds {E:Env} {nm:ByteArray} {xs ys:List De} (h:uo E nm xs) (hp:ys.Perm xs) (ho:ys.Pairwise fun a b=>lt b.d.nm a.d.nm=false):gm E nm (ys.map (·.d)):=by
 have hm:(ys.map (·.d)).map (·.nm)=ys.map (·.d.nm):=U0;have hn:=(hp.map (·.d.nm)).nodup_iff.2 h.nd;refine ⟨?_,fun d hd=>?_,fun k=>?_⟩
 · rw [hm]
   unfold Ck;rw [List.pairwise_map];have hn':=List.pairwise_map.1 hn;refine (hn'.and ho).imp ?_;intro a b ⟨h1,h2⟩;exact Yt (fun e=>h1 e.symm) h2
 · obtain ⟨y,hy,rfl⟩:=List.mem_map.1 hd
   exact h.ok y (hp.mem_iff.1 hy)
 rw [hm,(hp.map (·.d.nm)).mem_iff];exact h.mem k
theorem V_.perm {base g:Nat} {v:Value} {xs ys:List De} {w w':World} (h:V_ base v xs w) (hg:v.ownBlock=some g) (hp:ys.Perm xs) (hr:w'.ownsRow base 38 8 v ys.length (Co ys)) (hk:∀ k,k<w.heap.size->k≠g->w'.heap[k]?=w.heap[k]?):V_ base v ys w':=by
 refine ⟨hr,fun y hy=>Y0 (h.lk y (hp.mem_iff.1 hy)) fun k e=>?_,(hp.pairwise_iff (fun {a b} hab k e c=>hab k c e)).2 h.ne⟩;refine hk k ((h.lk y (hp.mem_iff.1 hy)).lt k e).2 fun c=>?_;obtain ⟨_,c1,h1⟩:=J2 (h.lk y (hp.mem_iff.1 hy)) e;obtain ⟨_,c2,h2⟩:=J2 h.row hg;exact j6 h1 h2 J3 c
theorem c18 (f:Fx) (E:Env) (hf:Rx f E) (hms:E.ms.length<=30) (nm:ByteArray) (g:Gh) (w:World) (hs:U_ f g w) (hl:Md E g none) (hq:g.q=[]) (hok:Y1 nm.data.toList=true):
 Calls prog 18 #[.string nm,.func (.func 20) #[.pointer (some ⟨f.kb,0,none⟩)] #[]] w fun e w'=>∃ v,e=.returned v/\∃ xs,V_ f.base v xs w'/\gm E nm (xs.map (·.d))/\Below f.base f.w0 w':=by
 have hbs:=hs.sz;have yM:l8 E:=by rw [hf.hE];exact qc hf.tr hf.pt
 obtain ⟨u0,hu0⟩:∃ u:World,u=w.alloc (.cells #[.slice none 0 0] 28):=⟨_,rfl⟩;have NR:=Q0 hu0;have b0:Below w.heap.size w u0:=by rw [hu0];exact bA
 have z0:u0.heap.size=w.heap.size+1:=by rw [hu0];simp
 obtain ⟨u1,hu1⟩:∃ u:World,u=(u0.alloc (.cells #[.string nm] 9)).alloc (.cells #[.func (.func 20) #[.pointer (some ⟨f.kb,0,none⟩)] #[]] 77):=⟨_,rfl⟩;have b1:Below u0.heap.size u0 u1:=by rw [hu1];exact bA.alloc U0 _
 have C26:=Cl.below (by rw [hu0];exact F3 w _ 28) b1 O0;have C1:Cl u1 u0.heap.size 9 [.string nm]:=by rw [hu1];exact B_ (F3 u0 _ 9) _
 have C2:Cl u1 (u0.heap.size+1) 77 [.func (.func 20) #[.pointer (some ⟨f.kb,0,none⟩)] #[]]:=by
  rw [hu1];have:=F3 (u0.alloc (.cells #[.string nm] 9)) [.func (.func 20) #[.pointer (some ⟨f.kb,0,none⟩)] #[]] 77;rw [World.size_alloc] at this;exact this
 have B1:=b0.trans (b1.mono O0);have HS:=Q0 ((hs.X7 _ Q8).grow B1);have HL:Hid (Md E { g with ow:=X7 g.ow w.heap.size } none):=Q0 ⟨hl.mem,hl.inj,hl.his,hl.fin,hl.non,hl.act,hl.iM,hl.qN,hl.EN,hl.FN,hl.VL,hl.iN⟩;have a0a:=Q0 C26;have HC1:=Q0 C1;have HC2:=Q0 C2;have jU:=Q0 hq;have zle:w.heap.size<=u0.heap.size:=O0;have aW:=xL nm f.kb u0;rw [<- hu1] at aW;have HLEN:Hid (∀ xs:List De,uo E nm xs->xs.length<=481):=fun xs h=>by
  have:=Xh yM hms h.nd (fun k hk=>(h.mem k).1 hk);simpa using this
 clear hs hl hq hu0 hu1 b0 b1 C26 C1 C2 B1 yM z0;refine Vs func18 rfl ?_;simp only [ntmps18,List.size_toArray,List.length_cons,List.length_nil,Nat.reduceAdd,Nat.reduceSub,Array.replicate_succ,Array.replicate_zero,List.push_toArray,List.append_toArray,List.nil_append,List.cons_append]
 go_upto_region 2 with fail
 rw [<- NR.out];clear NR
 go_wp2_with fail
 refine aW.mono ?_;rintro e w1 ⟨rfl,rfl⟩;clear aW
 go_wp2_with fail
 refine g21 f E hf hms w.heap.size u0.heap.size (u0.heap.size+1) nm _ _ _ _ _ _ _ _ _ _ _ _ _ _ _ _ _ _ HS.out HL.out jU.out a0a.out (L8 Q8) hbs HC1.out HC2.out (L8 O0) hok ?_;intro D W xs v hD hdf hbl hcd hdr hfin;have hne:xs≠[]:=fun e=>by have:=(hfin.mem nm).2 .base;rw [e] at this;cases this
 obtain ⟨gb,cap,hv⟩:∃ gb cap,v=.slice (some ⟨gb,0,none⟩) xs.length cap:=by
  rcases hdr.row.2 with ⟨_,h0⟩ | ⟨g',cap,cur,hv,_⟩
  · exact absurd (List.length_eq_zero_iff.1 h0) hne
  exact ⟨_,_,hv⟩
 subst hv;have h41:=DL f.base gb cap xs W hdr.row (fun x hx=>by obtain ⟨a,c,e⟩:=X9 (hdr.lk x hx);rw [e];rfl) (by have:=HLEN.out xs hfin;omega);have d0:W.cell? ⟨w.heap.size,0,none⟩=some (.slice (some ⟨gb,0,none⟩) xs.length cap):=hcd.cell 0;obtain ⟨hgb,cur,OL⟩:=J2 hdr.row (k:=gb) rfl;have HCD:=Q0 hcd;have HDF:=Q0 hdf;have tN:=Q0 hbl;have HDR:=Q0 hdr;have HFI:=Q0 hfin;have rU:=Q0 OL;clear hcd hdf hbl hdr hfin OL hne HS HL a0a HC1 HC2 jU
 go_wp2_with fail
 refine h41.mono ?_;rintro e W2 ⟨rfl,ys,hp,ho,hr,hgr⟩;have hz:=hgr.size;have hk:∀ k,k<W.heap.size->k≠gb->W2.heap[k]?=W.heap[k]?:=fun k h1 h2=>hgr.block k h1 (fun e=>h2 (Option.some.inj e));have C2:Cl W2 w.heap.size 28 [.slice (some ⟨gb,0,none⟩) xs.length cap]:=(hk _ HCD.out.lt (j6 HCD.out rU.out J3)).trans HCD.out;have d1:W2.cell? ⟨w.heap.size,0,none⟩=some (.slice (some ⟨gb,0,none⟩) xs.length cap):=C2.cell 0;have dD:=(hk _ (Array.getElem?_eq_some_iff.1 HDF.out).1 (fun c=>by have:=HDF.out;rw [c,rU.out] at this;cases this)).trans HDF.out;have DR:=HDR.out.perm rfl hp hr hk;have IS:=HFI.out.ds hp ho;have BL:=tN.out.trans ⟨hgr.os,hgr.tape,hgr.output,hz,fun k hk'=>hk k (by have:f.base<=W.heap.size:=tN.out.size;omega) O0⟩;have QW:=Q0 DR;have HIS:=Q0 IS;have a1N:=Q0 BL;have rW:=Q0 dD;clear h41 hp ho hr hz hk hgr d0 DR IS BL dD C2 HCD HDF HDR HFI rU tN;go_wp2;refine ⟨U0,.inl ⟨_,_,rfl,run_takeDeferred rW.out,?_⟩⟩;have cl:∀ (k:Nat) cur t fz,W2.heap[k]?=some (.cells cur t fz)->k≠D:=fun k cur t fz h1 e=>by rw [e,rW.out] at h1;cases h1
 have rl:∀ {base e size n:Nat} {v:Value} {xs:List Value},W2.ownsRow base e size v n xs->∀ k,v.ownBlock=some k->k≠D:=fun h1 k e=>by
  obtain ⟨_,cur,OL⟩:=J2 h1 e;exact cl _ _ _ _ OL
 refine ⟨_,results_tmp rfl _ _ _,?_⟩;exact ⟨_,rfl,ys,QW.out.keep (fun k e=>World.putObj_heap_other (rl QW.out.row k e)) (fun y hy k e=>World.putObj_heap_other (rl (QW.out.lk y hy) k e)),HIS.out,a1N.out.trans (Vn _ _ _ hD)⟩
end Go.Proofs.YtdpoaadafcaffaaGreatDoor
