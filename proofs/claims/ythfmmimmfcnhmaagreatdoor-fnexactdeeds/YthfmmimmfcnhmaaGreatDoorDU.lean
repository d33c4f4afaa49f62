import Derived.Test.YthfmmimmfcnhmaaGreatDoorDN
import Derived.Test.YthfmmimmfcnhmaaGreatDoorDT
set_option linter.unusedVariables false
set_option maxHeartbeats 8000000
set_option maxRecDepth 100000
namespace Go.Proofs.YthfmmimmfcnhmaaGreatDoor
open Go.RowKit
attribute [local go_sem] Oper.semAt_some
section
variable {l n:Nat} {P:Program} {ops:Array Oper} {Q:Exit->Act->World->Prop}
theorem wi_val {rest:List Oper} {o:Oper} {a:Act} {w w':World} {v:Value} (hg:o.guard=none) (hd:∀ c,o.op≠.defer c) (hr:(execOp a.eval o).run P w=.ok (.value v) w') (h:wpListIn (Fence.wide.inRound l) n P ops Q rest (a.put o.dst v) w'):wpListIn (Fence.wide.inRound l) n P ops Q (o::rest) a w:=by
 refine wpListIn_plain hg fun K hK=>⟨fun _ _=>trivial,?_⟩
 rw [show o.semAt (Fence.wide.inRound l).round a.eval=execOp a.eval o from Oper.semAt_some l _ _ hd,hr]
 exact hK _ _ h
theorem wi_skp {rest:List Oper} {o:Oper} {a:Act} {w w':World} (hg:o.guard=none) (hd:∀ c,o.op≠.defer c) (hr:(execOp a.eval o).run P w=.ok .skip w') (h:wpListIn (Fence.wide.inRound l) n P ops Q rest (a.put o.dst undef) w'):wpListIn (Fence.wide.inRound l) n P ops Q (o::rest) a w:=by
 refine wpListIn_plain hg fun K hK=>⟨fun _ _=>trivial,?_⟩
 rw [show o.semAt (Fence.wide.inRound l).round a.eval=execOp a.eval o from Oper.semAt_some l _ _ hd,hr]
 exact hK _ _ h
theorem wi_stN {rest:List Oper} {o:Oper} {a:Act} {w:World} (hg:o.guard=none) (ty:TypeId) (x y:Operand) (ho:o.op=.store ty x y) {B j:Nat} {t:TypeId} {xs vs:List Value} (hx:a.eval x=.pointer (some ⟨B,j,none⟩)) (hy:a.eval y=.agg vs.toArray) (hB:Cl w B t xs) (hl:j+vs.length<=xs.length) (h1:∀ v∈vs,v.oneCell'=true) (hi:(P.info? ty).map (·.size)=some vs.length)
 (hK:∀ w',Cl w' B t (putL xs j vs)->OnB B w w'->wpListIn (Fence.wide.inRound l) n P ops Q rest (a.put o.dst undef) w'):wpListIn (Fence.wide.inRound l) n P ops Q (o::rest) a w:=
 wi_skp hg (fun c e=>by rw [ho] at e;cases e) (ex_stN ty x y ho hx hy hB hl h1 hi) (hK _ (hB.fillP hl) (on_fill _ _ _ _))
theorem wi_app {rest:List Oper} {o:Oper} {a:Act} {w:World} (hg:o.guard=none) (s x:Operand) (t:TypeId) (ho:o.op=.call { callee:=.builtin .append,args:=#[s,x],argTypes:=#[t,t] })
 (base:Nat) (e:TypeId) (size:Nat) (ht:P.underlying t=some (.slice e)) (hinf:Inf P e size) (hsz:0<size) (v:Value) (k:Nat) (xs:List Value) (hs:a.eval s=v) (hown:w.ownsRow base e size v k xs) (sv:Value) (m:Nat) (news:List Value) (hx:a.eval x=sv) (hsrc:Src w sv size m news) (h1:∀ u∈news,u.oneCell'=true) (hn:k+m<=1000000) (hbase:base<=w.heap.size)
 (h:∀ v' w',w'.ownsRow base e size v' (k+m) (xs++news)->w.grownBy w' v.ownBlock->(v'.ownBlock=v.ownBlock\/v'.ownBlock=some w.heap.size)->wpListIn (Fence.wide.inRound l) n P ops Q rest (a.put o.dst v') w'):wpListIn (Fence.wide.inRound l) n P ops Q (o::rest) a w:=by
 obtain ⟨v',w',hr,h2,h3,h5⟩:=run_appS w base t o.type e size ht hinf hsz v k xs hown sv m news hsrc h1 hn hbase
 refine wi_val hg (fun c e=>by rw [ho] at e;cases e) (v:=v') (w':=w') ?_ (h v' w' h2 h3 h5)
 unfold execOp
 simp only [ho,resolve,invoke,builtin,Sem.run_bind,Sem.run_pure,Result.andThen_ok,List.map_toArray,List.map_cons,List.map_nil,hs,hx,hr]
end
def as21:Code:=Code.region 3 #[⟨some 6,.alloc 55,0, "l4_want.go:111",#[],none⟩,⟨none,.store 55 (.tmp 6) (.tmp 10),0, "l4_want.go:111",#[⟨0,.data⟩,⟨0,.phase⟩],none⟩] false
def bo21:Code:=Code.block 1 (Code.region 4 #[⟨some 11,.load 26 (.tmp 5),26, "l4_want.go:112",#[],none⟩,⟨some 12,.load 55 (.tmp 6),55, "l4_want.go:112",#[],none⟩,⟨some 13,.buildSlice 26 1 #[(0,.tmp 12)],26, "l4_want.go:112",#[⟨1,.data⟩],none⟩,⟨some 14,.call ⟨.builtin .append,#[.tmp 11,.tmp 13],#[26,26]⟩,26, "l4_want.go:112",#[⟨0,.data⟩,⟨2,.data⟩],none⟩,⟨none,.store 26 (.tmp 5) (.tmp 14),0, "l4_want.go:112",#[⟨3,.data⟩,⟨3,.chain⟩,⟨0,.phase⟩,⟨1,.phase⟩,⟨2,.phase⟩,⟨3,.phase⟩],none⟩] false)
theorem a21 (l m Bd:Nat) (x:De) (hx:isSl x.lv=true) (W:World) (u0 u1 u2 u3 u4 u6 u7 u8 u9 u10 u11 u12 u13 u14 u15 u16 u17:Value) (K:Act->World->Prop) (hK:∀ W2,Cl W2 W.heap.size 55 x.vs->Below W.heap.size W W2->K { tmps:=#[u0,u1,u2,u3,u4,.pointer (some ⟨Bd,0,none⟩),.pointer (some ⟨W.heap.size,0,none⟩),u7,u8,u9,.agg x.vs.toArray,u11,u12,u13,u14,u15,u16,u17],defers:=[] } W2):
 as21.wpIn (Fence.wide.inRound l) m Tryz.prog (Exit.then K (fun _ _ _=>False)) { tmps:=#[u0,u1,u2,u3,u4,.pointer (some ⟨Bd,0,none⟩),u6,u7,u8,u9,.agg x.vs.toArray,u11,u12,u13,u14,u15,u16,u17],defers:=[] } W:=by
 unfold as21
 have hxo:x.lv.oneCell'=true:=by obtain ⟨a,n,c,e⟩:=isSl_one hx;rw [e];rfl
 gi_wp2_with (refine wi_stN rfl 55 _ _ rfl (B:=W.heap.size) (j:=0) rfl (vs:=x.vs) rfl (cl_new W [.string ⟨#[]⟩,.bool false,.string ⟨#[]⟩,.string ⟨#[]⟩,.string ⟨#[]⟩,.slice none 0 0,.int .i64 0,.string ⟨#[]⟩] 55) (by simp [De.vs]) (de_one _ hxo) (by kernel_rfl) ?_;intro w2 hc2 ho2)
 exact hK _ hc2 (((Below.refl _ _).alloc (Nat.le_refl _) _).trans (ho2.below (Nat.le_refl _)))
theorem b21 (l m Bd B6 base c:Nat) (x:De) (hx:isSl x.lv=true) (pre:List De) (va:Option Addr) (hp:pre.length<=481) (W:World) (u0 u1 u2 u3 u4 u6 u7 u8 u9 u10 u11 u12 u13 u14 u15 u16 u17:Value) (Q:Exit->Act->World->Prop) (hd:Cl W Bd 26 [.slice va pre.length c]) (h6:Cl W B6 55 x.vs) (hr:W.ownsRow base 55 8 (.slice va pre.length c) pre.length (deC pre)) (hb:base<=W.heap.size)
 (hQ:∀ a v' W5,W5.ownsRow base 55 8 v' (pre.length+1) (deC pre++x.vs)->(W.alloc (.cells x.vs.toArray 55)).grownBy W5 (Value.slice va pre.length c).ownBlock->(v'.ownBlock=(Value.slice va pre.length c).ownBlock\/v'.ownBlock=some (W.alloc (.cells x.vs.toArray 55)).heap.size)->Q .normal a (W5.setCell ⟨Bd,0,none⟩ v')):
 bo21.wpIn (Fence.wide.inRound l) m Tryz.prog Q { tmps:=#[u0,u1,u2,u3,u4,.pointer (some ⟨Bd,0,none⟩),.pointer (some ⟨B6,0,none⟩),u7,u8,u9,u10,u11,u12,u13,u14,u15,u16,u17],defers:=[] } W:=by
 unfold bo21
 have hxo:x.lv.oneCell'=true:=by obtain ⟨a,n,c,e⟩:=isSl_one hx;rw [e];rfl
 have hal:Below W.heap.size W (W.alloc (.cells x.vs.toArray 55)):=(Below.refl _ _).alloc (Nat.le_refl _) _
 have HRA:=hidI (ownsRow_below hr hal)
 have G4:Hid (Cl (W.alloc (.cells x.vs.toArray 55)) W.heap.size 55 x.vs):=hidI (cl_new W _ 55)
 have hbs:base<=(W.alloc (.cells x.vs.toArray 55)).heap.size:=by simp;omega
 have d0:W.cell? ⟨Bd,0,none⟩=some (.slice va pre.length c):=hd.cell 0
 have HD:=hidI hd
 have H6:=hidI h6
 have HX:=hidI hxo
 have HQ:=hidI hQ
 have HBD:Hid (∀ W5:World,(W.alloc (.cells x.vs.toArray 55)).grownBy W5 (Value.slice va pre.length c).ownBlock->Cl W5 Bd 26 [.slice va pre.length c]):=fun W5 hg=>(hd.below hal hd.lt).gb hg (fun e=>by
  obtain ⟨_,cur,hcu⟩:=own_block HRA.out e.symm
  exact blk_ne hcu (hd.below hal hd.lt) (by decide) rfl)
 obtain ⟨⟨xn,md,⟨m1,m2,m3⟩,ls,⟨rc,rt⟩,wt⟩,lv⟩:=x
 obtain ⟨la,ln,lc,rfl⟩:=isSl_one hx
 clear hd h6 hr hxo hal hQ
 gi_wp2_with (first | (refine wi_val rfl (fun _ e=>by cases e) (ex_ldN 55 _ rfl (B:=B6) (j:=0) (cs:=[.string xn,.bool md,.string m1,.string m2,.string m3,.slice la ln lc,.int .i64 rc,.string rt]) rfl (fun q v e=>by rw [Nat.zero_add];exact (H6.out.cell q).trans e) Tryz.underlying55 rfl (by kernel_rfl)) ?_) | (refine wi_app rfl _ _ 26 rfl base 55 8 Tryz.underlying26 inf55 (by decide) (.slice va pre.length c) pre.length (deC pre) rfl HRA.out _ 1 [.string xn,.bool md,.string m1,.string m2,.string m3,.slice la ln lc,.int .i64 rc,.string rt] rfl (.inr ⟨⟨W.heap.size,0,none⟩,1,rfl,rfl,cl_row G4.out⟩) (by intro v hv;simp at hv;rcases hv with rfl | rfl | rfl | rfl | rfl | rfl | rfl | rfl <;> rfl) (by omega) hbs ?_;intro v' w9 O9 g9 at9;have HO9:=hidI O9;have HG9:=hidI g9;have HA9:=hidI at9;obtain ⟨vf,vg,hvf⟩:=row_slice O9;subst hvf;have d1:w9.cell? ⟨Bd,0,none⟩=some (.slice va pre.length c):=(HBD.out w9 g9).cell 0;have d2:w9.frozen? ⟨Bd,0,none⟩=false:=(HBD.out w9 g9).opn 0;clear O9 g9 at9))
 exact HQ.out _ _ _ HO9.out HG9.out HA9.out
