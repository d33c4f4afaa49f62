import Derived.Test.YthjhakdpikdoeaaGreatDoorNH
set_option linter.unusedVariables false
set_option maxHeartbeats 8000000
set_option maxRecDepth 100000
namespace Go.Proofs.YthjhakdpikdoeaaGreatDoor
open Proofs.Tryz
open Go.RowKit
section
variable {P:Program} {ops:Array Oper} {Q:Exit->Act->World->Prop} {md:Region.Mode}
def cnt (l:Array Bool):Nat:=(l.toList.filter fun b=>!b).length
theorem cnt_list:∀ (l:List Bool) (i:Nat),l.getD i true=false->((l.set i true).filter fun b=>!b).length+1=(l.filter fun b=>!b).length
 | [],i,h=>by simp at h
 | b::l,0,h=>by
  have hb:b=false:=by simpa using h
  subst hb;simp
 | b::l,i+1,h=>by
  have:=cnt_list l i (by simpa using h);cases b <;> simp_all
theorem cnt_set {l:Array Bool} {i:Nat} (h:l.getD i true=false):cnt (l.setIfInBounds i true)+1=cnt l:=by
 have e:l.getD i true=l.toList.getD i true:=by rw [Array.getD_eq_getD_getElem?,List.getD_eq_getElem?_getD,Array.getElem?_toList]
 have:=cnt_list l.toList i (e▸h);simpa [cnt] using this
theorem cnt_pos {l:Array Bool} {i:Nat} (h:l.getD i true=false):0<cnt l:=by have:=cnt_set h;omega
theorem wpAny_inv {I:Array Bool->Act->World->Prop} (hf:∀ l a w,I l a w->Region.ready md ops l=[]->Q .normal a w)
 (hs:∀ l a w i o,I l a w->ops[i]?=some o->l.getD i true=false->(∀ e∈o.after,Region.binds md e=true->l.getD e.on false=true)->∀ K':Act->World->Prop,(∀ a' w',I (l.setIfInBounds i true) a' w'->K' a' w')->if Region.wanted o (yielded ops a.tmps)=true then Oper.wp P o a w K' Q else K' (a.put o.dst undef) w):
 ∀ n l a w,I l a w->cnt l<=n->wpAny P md ops Q n l a w:=by
 intro n
 induction n with
 | zero=>
  intro l a w hI hc;have hr:Region.ready md ops l=[]:=List.eq_nil_iff_forall_not_mem.2 fun i hi=>by
   have:=cnt_pos (mem_ready.1 hi).1;omega
  exact ⟨hr,hf l a w hI hr⟩
 | succ n ih=>
  intro l a w hI hc;refine ⟨fun hr=>hf l a w hI hr,fun i hi=>?_⟩;obtain ⟨h1,o,ho,h2⟩:=mem_ready.1 hi;exact wpOp_step ho fun K' hK=>hs l a w i o hI ho h1 h2 K' fun a' w' h=>hK a' w' (ih _ _ _ h (by have:=cnt_set h1;omega))
theorem ready_nil {l:Array Bool} {i:Nat} {o:Oper} (h:Region.ready md ops l=[]) (ho:ops[i]?=some o) (hd:∀ e∈o.after,Region.binds md e=true->l.getD e.on false=true):l.getD i true=true:=by
 cases hl:l.getD i true
 · exact absurd (mem_ready.2 ⟨hl,o,ho,hd⟩) (by rw [h];exact List.not_mem_nil)
 rfl
theorem wp_region_inv {I:Array Bool->Act->World->Prop} {id:Nat} {a:Act} {w:World} (hm:P.follows .mixedOrders=true) (h0:I (Array.replicate ops.size false) a w.drew) (hf:∀ l a w,I l a w->Region.ready .any ops l=[]->Q .normal a w)
 (hs:∀ l a w i o,I l a w->ops[i]?=some o->l.getD i true=false->(∀ e∈o.after,Region.binds .any e=true->l.getD e.on false=true)->∀ K':Act->World->Prop,(∀ a' w',I (l.setIfInBounds i true) a' w'->K' a' w')->if Region.wanted o (yielded ops a.tmps)=true then Oper.wp P o a w K' Q else K' (a.put o.dst undef) w):(Code.region id ops true).wp P Q a w:=
 wp_region_any hm (wpAny_inv hf hs _ _ _ _ h0 (by simp [cnt]))
end
def IA (u:World) (q A:Nat):Prop:=A≠q/\∃ xs:List Value,Cl u A 3 xs/\∀ i,i<4->∃ z:Int,xs[i]?=some (.int .i64 z)
theorem IA.but {u u':World} {q A:Nat} (h:IA u q A) (hb:But q u u'):IA u' q A:=by
 obtain ⟨h1,xs,h2,h3⟩:=h;exact ⟨h1,xs,(hb.block _ h2.lt h1).trans h2,h3⟩
theorem IA.on {u u':World} {q A B:Nat} {xs:List Value} (h:IA u q A) (hB:Cl u B 31 xs) (ho:OnB B u u'):IA u' q A:=by
 obtain ⟨h1,xs,h2,h3⟩:=h;exact ⟨h1,xs,h2.on ho (h2.ne hB dc_),h3⟩
theorem ia_new {q:Nat} {u:World} (hq:q<u.heap.size) (a b c d:Int):IA (u.alloc (.cells #[.int .i64 a,.int .i64 b,.int .i64 c,.int .i64 d] 3)) q u.heap.size:=
 ⟨om_,_,cl_new u [_,_,_,_] 3,fun i hi=>by
  rcases (by omega:i=0\/i=1\/i=2\/i=3) with rfl | rfl | rfl | rfl
  all_goals exact ⟨_,rfl⟩⟩
structure RG (q P N0:Nat) (G:World->Prop) (b0 b1 b2 b3 b4 b5 b6 b7 b8 b9 b10 b11 b12:Bool) (x8 x16 x17 x18 x19 x20 x21 x22 x23 x24 x25 x26:Value) (u:World):Prop where
 h12:b12=true->b11=true
 g:G u
 rd:RdTo u q (P+b2.toNat+b7.toNat)
 n0:N0<=u.heap.size
 h0:b0=true->∃ A,x16=.slice (some ⟨A,0,none⟩) 4 4/\IA u q A
 h1:b1=true->x17=.pointer (some ⟨q,0,none⟩)
 h2:b2=true->∃ r:Nat,x18=.int .i64 r/\r<4
 h3:b3=true->∃ A r,x19=.pointer (some ⟨A,r,none⟩)/\r<4/\IA u q A
 h4:b4=true->∃ z:Int,x20=.int .i64 z
 h5:b5=true->∃ A,x21=.slice (some ⟨A,0,none⟩) 4 4/\IA u q A
 h6:b6=true->x22=.pointer (some ⟨q,0,none⟩)
 h7:b7=true->∃ r:Nat,x23=.int .i64 r/\r<4
 h8:b8=true->∃ A r,x24=.pointer (some ⟨A,r,none⟩)/\r<4/\IA u q A
 h9:b9=true->∃ z:Int,x25=.int .i64 z
 h10:b10=true->∃ z z':Int,x26=.agg (mc { M.g16z with ep:=z,ed:=z' } none 0).toArray
 h11:b11=true->∃ B,x8=.pointer (some ⟨B,0,none⟩)/\N0<=B/\(b12=false->Cl u B 31 (mc M.g16z none 0))/\(b12=true->∃ z z':Int,Cl u B 31 (mc { M.g16z with ep:=z,ed:=z' } none 0))
theorem RG.to {q P P' N0:Nat} {G:World->Prop} {b0 b1 b2 b3 b4 b5 b6 b7 b8 b9 b10 b11 b12:Bool} {x8 x16 x17 x18 x19 x20 x21 x22 x23 x24 x25 x26:Value} {u u':World} (h:RG q P N0 G b0 b1 b2 b3 b4 b5 b6 b7 b8 b9 b10 b11 b12 x8 x16 x17 x18 x19 x20 x21 x22 x23 x24 x25 x26 u) (hq:q<N0) (hb:But q u u') (hg:G u') (hr:RdTo u' q (P'+b2.toNat+b7.toNat)):RG q P' N0 G b0 b1 b2 b3 b4 b5 b6 b7 b8 b9 b10 b11 b12 x8 x16 x17 x18 x19 x20 x21 x22 x23 x24 x25 x26 u':=
 ⟨h.h12,hg,hr,Nat.le_trans h.n0 hb.size,fun e=>(h.h0 e).imp fun _ k=>⟨k.1,k.2.but hb⟩,h.h1,h.h2,fun e=>by obtain ⟨A,r,k1,k2,k3⟩:=h.h3 e;exact ⟨A,r,k1,k2,k3.but hb⟩,h.h4,fun e=>(h.h5 e).imp fun _ k=>⟨k.1,k.2.but hb⟩,h.h6,h.h7,fun e=>by obtain ⟨A,r,k1,k2,k3⟩:=h.h8 e;exact ⟨A,r,k1,k2,k3.but hb⟩,h.h9,h.h10,fun e=>by
  obtain ⟨B,k1,k2,k3,k4⟩:=h.h11 e;refine ⟨B,k1,k2,fun f=>?_,fun f=>?_⟩
  · have:=k3 f;exact (hb.block _ this.lt om_).trans this
  obtain ⟨z,z',k⟩:=k4 f;exact ⟨z,z',(hb.block _ k.lt om_).trans k⟩⟩
structure G2 (q:Nat) (w:World) (A B N0:Nat) (m:M3) (cd:Int) (tx:ByteArray) (a:Option Addr) (ls:List M.L4) (u:World):Prop where
 bu:But q w u
 cR:Cl u (w.heap.size+1) 31 (mc M.g16z none 0)
 cA:Cl u A 24 [.string m.nm,.string m.tl,.string m.ar]
 cB:Cl u B 27 [.int .i64 cd,.string tx]
 la:M.LksAt u a ls
 wA:w.heap.size<=A
 wB:w.heap.size<=B
 nA:A<N0
 nB:B<N0
 nR:w.heap.size+1<N0
 n0:N0<=u.heap.size
 ln:∀ g off,a=some ⟨g,off,none⟩->ls≠[]->g<N0
 qw:q<w.heap.size
theorem G2.but {q P:Nat} {w:World} {A B N0:Nat} {m:M3} {cd:Int} {tx:ByteArray} {a:Option Addr} {ls:List M.L4} {u u':World} (h:G2 q w A B N0 m cd tx a ls u) (hr:RdTo u q P) (hb:But q u u'):G2 q w A B N0 m cd tx a ls u':=by
 have:=h.qw;have:=h.wA;have:=h.wB;exact ⟨h.bu.trans hb,(hb.block _ h.cR.lt om_).trans h.cR,(hb.block _ h.cA.lt om_).trans h.cA,(hb.block _ h.cB.lt om_).trans h.cB,lks_but0 h.la hr hb,h.wA,h.wB,h.nA,h.nB,h.nR,Nat.le_trans h.n0 hb.size,h.ln,h.qw⟩
theorem G2.on {q:Nat} {w:World} {A B N0:Nat} {m:M3} {cd:Int} {tx:ByteArray} {a:Option Addr} {ls:List M.L4} {u u':World} {X:Nat} (h:G2 q w A B N0 m cd tx a ls u) (hX:N0<=X) (ho:OnB X u u'):G2 q w A B N0 m cd tx a ls u':=by
 have h1:=h.nA;have h2:=h.nB;have h3:=h.nR;exact ⟨h.bu.laterB (ho.below hX) om_,h.cR.on ho om_,h.cA.on ho om_,h.cB.on ho om_,lks_keep h.la (Nat.le_of_eq ho.size.symm) (fun g off e hn _=>ho.block g (by have:=h.ln g off e hn;omega)),h.wA,h.wB,h.nA,h.nB,h.nR,by rw [ho.size];exact h.n0,h.ln,h.qw⟩
theorem lks_take {w:World} {a:Option Addr} {ls:List M.L4} (r:Nat) (h:M.LksAt w a ls):M.LksAt w a (ls.take r):=by
 rcases h with rfl | ⟨b,off,h1,h2,h3⟩
 · exact .inl sm_
 refine .inr ⟨b,off,h1,h2,fun i hi=>?_⟩;have hi':i<ls.length:=by rw [List.length_take] at hi;omega
 have hir:i<r:=by rw [List.length_take] at hi;omega
 have e:(ls.take r).getD i M.l4z=ls.getD i M.l4z:=by simp [List.getD,hir]
 rw [e];exact h3 i hi'
theorem sl_run {w:World} {a:Option Addr} {ls:List M.L4} {c r:Nat} (hat:M.LksAt w a ls) (hr:r<=ls.length) (hc:ls.length<=c):∃ a',(∀ v,(Instr.slice 25 (.slice a ls.length c) none (some (.int .i64 (r:Int))) none).run prog v=.ok (.slice a' r c) v)/\M.LksAt w a' (ls.take r):=by
 obtain ⟨i,z,hi,_⟩:=inf74;refine ⟨if c=0 then a else a.map (·.add 0),fun v=>?_,?_⟩
 · simp [Instr.slice,run_underlying underlying25 v,Instr.sliceBounds,Instr.sliceBound,asIntOf,sizeOf,typeInfo,hi]
   intro h;omega
 split
 · exact lks_take r hat
 rcases hat with rfl | ⟨b,off,rfl,h2,h3⟩
 · exact .inl sm_
 have e:((some (⟨b,off,none⟩:Addr)).map (·.add 0))=some ⟨b,off,none⟩:=rfl;rw [e];exact lks_take r (.inr ⟨b,off,rfl,h2,h3⟩)
theorem G2.bl {q:Nat} {w:World} {A B N0:Nat} {m:M3} {cd:Int} {tx:ByteArray} {a:Option Addr} {ls:List M.L4} {u u':World} {N:Nat} (h:G2 q w A B N0 m cd tx a ls u) (hN:N0<=N) (hb:Below N u u'):G2 q w A B N0 m cd tx a ls u':=by
 have h1:=h.nA;have h2:=h.nB;have h3:=h.nR;exact ⟨h.bu.laterB hb om_,h.cR.below hb om_,h.cA.below hb om_,h.cB.below hb om_,lks_keep h.la hb.size (fun g off e hn _=>hb.block g (by have:=h.ln g off e hn;omega)),h.wA,h.wB,h.nA,h.nB,h.nR,Nat.le_trans h.n0 hb.size,h.ln,h.qw⟩
structure D7 (q P:Nat) (w:World) (A B X:Nat) (x:M.G16) (xb:Option Addr) (xn:Nat) (m:M3) (cd:Int) (tx:ByteArray) (lb:Option Addr) (ln:Nat) (ls:List M.L4) (u:World):Prop where
 rd:RdTo u q P
 bu:But q w u
 qw:q<w.heap.size
 cR:Cl u (w.heap.size+1) 31 (mc M.g16z none 0)
 cA:Cl u A 24 [.string m.nm,.string m.tl,.string m.ar]
 cB:Cl u B 27 [.int .i64 cd,.string tx]
 cX:Cl u X 31 (mc x xb xn)
 la:M.LksAt u lb ls
 ns:M.NS lb ln ls
 wA:w.heap.size<=A
 wB:w.heap.size<=B
 wX:w.heap.size+1<X
theorem mk7 {q P:Nat} {w:World} {A B N0 N X:Nat} {m:M3} {cd:Int} {tx:ByteArray} {a:Option Addr} {ls:List M.L4} {u u':World} {x:M.G16} {v':Value} {r:Nat} (O1:u'.ownsRow N 74 4 v' (0+r) ([]++lkCells (ls.take r))) (g1:u.grownBy u' (Value.slice (some ⟨N,0,none⟩) 0 0).ownBlock) (hr:RdTo u q P) (hG:G2 q w A B N0 m cd tx a ls u) (hC:Cl u X 31 (mc x none 0)) (hq:q<N) (hX:X<N) (hN:N0<=N) (hX0:N0<=X) (hz:N<u.heap.size) (hrl:r<=ls.length):
 ∃ lb ln ls5,v'=.slice lb r ln/\D7 q P w A B X x none 0 m cd tx lb ln ls5 u'/\ls5=ls.take r:=by
 rw [Nat.zero_add,List.nil_append] at O1;have hlt:(ls.take r).length=r:=by rw [List.length_take,Nat.min_eq_left hrl]
 have O2:u'.ownsRow N 74 4 v' (ls.take r).length (lkCells (ls.take r)):=by rw [hlt];exact O1
 obtain ⟨b,n,rfl,hat,hns⟩:=row_ns O2;have hb:=gr_bW (Below.refl N u) g1 om_ (fun k e=>by have e:some N=some k:=e;injection e with e;omega);have hG':=hG.bl hN hb;have hnR:=hG.nR;exact ⟨b,n,_,by rw [hlt],⟨hr.laterB hb hq,hG'.bu,hG'.qw,hG'.cR,hG'.cA,hG'.cB,hC.below hb hX,hat,hns,hG'.wA,hG'.wB,om_⟩,rfl⟩
section
variable {q P P':Nat} {w:World} {A B X:Nat} {x x':M.G16} {xb:Option Addr} {xn:Nat} {m:M3} {cd:Int} {tx:ByteArray} {lb:Option Addr} {ln:Nat} {ls:List M.L4} {u u':World}
theorem D7.call (h:D7 q P w A B X x xb xn m cd tx lb ln ls u) (hr:RdTo u' q P') (hb:But q u u'):D7 q P' w A B X x xb xn m cd tx lb ln ls u':=by
 have:=h.qw;have:=h.wA;have:=h.wB;have:=h.wX;exact ⟨hr,h.bu.trans hb,h.qw,(hb.block _ h.cR.lt om_).trans h.cR,(hb.block _ h.cA.lt om_).trans h.cA,(hb.block _ h.cB.lt om_).trans h.cB,(hb.block _ h.cX.lt om_).trans h.cX,lks_but0 h.la h.rd hb,h.ns,h.wA,h.wB,h.wX⟩
theorem D7.later (h:D7 q P w A B X x xb xn m cd tx lb ln ls u) (hb:Below u.heap.size u u'):D7 q P w A B X x xb xn m cd tx lb ln ls u':=h.call (h.rd.later hb) (But.of_below hb)
theorem D7.on (h:D7 q P w A B X x xb xn m cd tx lb ln ls u) (ho:OnB X u u') {xb':Option Addr} {xn':Nat} (hX:Cl u' X 31 (mc x' xb' xn')):D7 q P w A B X x' xb' xn' m cd tx lb ln ls u':=by
 have:=h.qw;have h1:=h.wX;exact ⟨h.rd.laterB (ho.below lr_) om_,h.bu.laterB (ho.below lr_) om_,h.qw,h.cR.on ho om_,h.cA.on ho (h.cA.ne h.cX dc_),h.cB.on ho (h.cB.ne h.cX dc_),hX,lks_on h.la h.ns h.cX (fun b e=>by cases e) ho,h.ns,h.wA,h.wB,h.wX⟩
theorem D7.set (h:D7 q P w A B X x xb xn m cd tx lb ln ls u) (j:Nat) (y:Value) {xb':Option Addr} {xn':Nat} (e:(mc x xb xn).set j y=mc x' xb' xn'):D7 q P w A B X x' xb' xn' m cd tx lb ln ls (u.setCell ⟨X,j,none⟩ y):=h.on (on_set _ _ _ _) (e▸h.cX.set j y)
theorem D7.turn (h:D7 q P w A B X x xb xn m cd tx lb ln ls u) (t:M.T6):D7 q P w A B X { x with tn:=t } xb xn m cd tx lb ln ls ((((((u.setCell ⟨X,10,none⟩ (.bool t.over)).setCell ⟨X,11,none⟩ (.int .i64 t.cd)).setCell ⟨X,12,none⟩ (.string t.tx)).setCell ⟨X,13,none⟩ (.bool t.has)).setCell ⟨X,14,none⟩ (.string t.nm)).setCell ⟨X,15,none⟩ (.int .i64 t.st)):=
 (((((h.set (x':={ x with tn:={ x.tn with over:=t.over } }) 10 _ rfl).set (x':={ x with tn:={ x.tn with over:=t.over,cd:=t.cd } }) 11 _ rfl).set (x':={ x with tn:={ x.tn with over:=t.over,cd:=t.cd,tx:=t.tx } }) 12 _ rfl).set (x':={ x with tn:={ x.tn with over:=t.over,cd:=t.cd,tx:=t.tx,has:=t.has } }) 13 _ rfl).set (x':={ x with tn:={ x.tn with over:=t.over,cd:=t.cd,tx:=t.tx,has:=t.has,nm:=t.nm } }) 14 _ rfl).set 15 _ rfl
def Sx (x:M.G16):Prop:=x.le 999999/\x.ls=[]
theorem Sx.turn {x:M.G16} (h:Sx x) (t:M.T6) (h1:t.tx.size<=999999) (h2:t.nm.size<=999999):Sx { x with tn:=t }:=⟨⟨h.1.1,h.1.2.1,h1,h2⟩,h.2⟩
end
theorem take_le {ls:List M.L4} {K r:Nat} (h:∀ i,(ls.getD i M.l4z).le K) (i:Nat):((ls.take r).getD i M.l4z).le K:=by
 rcases Nat.lt_or_ge i r with hi | hi
 · rw [show (ls.take r).getD i M.l4z=ls.getD i M.l4z from by simp [List.getD,hi]];exact h i
 rw [show (ls.take r).getD i M.l4z=M.l4z from by simp [List.getD,List.getElem?_take,Nat.not_lt.2 hi]];exact ⟨Nat.zero_le _,Nat.zero_le _⟩
def Is16 (K q P:Nat) (w:World) (e:Ending) (w':World):Prop:=(∃ x b n,e=.returned (.agg (mc x b n).toArray)/\MsI K w' x b n)/\RdTo w' q P/\But q w w'
theorem fin16 {K q P P':Nat} {w u:World} {x:M.G16} {b:Option Addr} {n:Nat} (hC:Cl u (w.heap.size+1) 31 (mc x b n)) (hI:MsI K u x b n) (hr:RdTo u q P) (hp:P<=P') (hb:But q w u) (tm:Array Value) (h4:tm[4]?=some (.pointer (some ⟨w.heap.size+1,0,none⟩))):bodyPost prog f16 (Is16 K q P' w) .ret ⟨tm,[]⟩ u:=
 bodyPost_ret (v:=.agg (mc x b n).toArray) (M.results_blk (P:=prog) (ty:=31) rfl _ u (w.heap.size+1) (mc x b n) _ (by simp [h4]) hC.blk underlying31 rfl kr_) rfl ⟨⟨x,b,n,rfl,hI⟩,hr.mono hp,hb⟩
theorem D7.fin {q P P':Nat} {w:World} {A B X:Nat} {x0 x:M.G16} {xb b:Option Addr} {xn n:Nat} {m:M3} {cd:Int} {tx:ByteArray} {lb:Option Addr} {ln:Nat} {ls:List M.L4} {u u':World} (h:D7 q P w A B X x0 xb xn m cd tx lb ln ls u) (ho:OnB (w.heap.size+1) u u') (hC:Cl u' (w.heap.size+1) 31 (mc x b n)) (hx:x.le 999999) (hls:(x.ls=[]/\b=none/\n=0)\/(x.ls=ls/\b=lb/\n=ln)) (hp:P<=P') (tm:Array Value) (h4:tm[4]?=some (.pointer (some ⟨w.heap.size+1,0,none⟩))):bodyPost prog f16 (Is16 999999 q P' w) .ret ⟨tm,[]⟩ u':=by
 have hq:=h.qw;have hI:MsI 999999 u' x b n:=by
  rcases hls with ⟨e1,rfl,rfl⟩ | ⟨e1,rfl,rfl⟩
  · exact ⟨hx,.inl e1,.inr e1⟩
  exact ⟨hx,by rw [e1];exact lks_on h.la h.ns h.cR (fun b e=>by cases e) ho,by rw [e1];exact h.ns⟩
 exact fin16 hC hI (h.rd.laterB (ho.below lr_) om_) hp (h.bu.laterB (ho.below lr_) om_) tm h4
theorem c16 (q P:Nat) (v:Value) (w:World) (hp:P<=70000) (hr:RdTo w q P) (hv:TrB 40 w v):
 Calls prog 16 #[.pointer (some ⟨q,0,none⟩),.agg #[v]] w (Is16 999999 q (P+20) w):=by
 have HR:=hdI hr;have hq:=hr.lt;have HV:=hdI hv;obtain ⟨ta,tc,tf,rfl,_⟩:=hv;clear hr;go_enter func16,ntmps16
 go_wp2_with fail
 obtain ⟨y0,hy⟩:∃ y:World,y=(w.alloc (.cells #[.slice ta tf.length tc] 51)).alloc (.cells (mc M.g16z none 0).toArray 31):=⟨_,rfl⟩;have hy':=hy;simp only [mc,M.g16z,M.t6z,m3z,List.length_nil] at hy';rw [<- hy'];have b0:Below w.heap.size w y0:=by rw [hy];exact by2 _ _ _
 have C1:Hid (Cl y0 (w.heap.size+1) 31 (mc M.g16z none 0)):=by show Cl _ _ _ _;rw [hy];exact cl_at sm_
 clear hy hy';refine (c39 q P _ y0 om_ (HR.out.later b0) (HV.out.below b0)).mono ?_;rintro e y1 ⟨⟨v1,rfl,m,a,c,ls,cd,tx,rfl,hm,hl,hlc,hs,htx,hat⟩,hr,hb⟩
 go_wp2_with fail
 obtain ⟨y2,hy⟩:∃ y:World,y=(y1.alloc (.cells #[.string m.nm,.string m.tl,.string m.ar] 24)).alloc (.cells #[.int .i64 cd,.string tx] 27):=⟨_,rfl⟩;rw [<- hy];have hb2:Below y1.heap.size y1 y2:=by rw [hy];exact by2 _ _ _
 have hz2:y2.heap.size=y1.heap.size+2:=by rw [hy];simp
 have hz1:=Nat.le_trans b0.size hb.size;have C1:Cl y1 (w.heap.size+1) 31 (mc M.g16z none 0):=(hb.block _ C1.out.lt om_).trans C1.out;have HG:Hid (G2 q w y1.heap.size (y1.heap.size+1) y2.heap.size m cd tx a ls y2):=⟨((But.of_below b0).trans hb).later hb2,C1.below hb2 C1.lt,by rw [hy];exact cl_old (cl_new y1 [_,_,_] 24) _,by rw [hy];exact cl_at (xs:=[_,_]) sm_,M.lks_below hat hb2,hz1,om_,om_,om_,by have:=C1.lt;omega,Nat.le_refl _,fun g off e hn=>by
  rcases hat with h | ⟨g',off',h1,h2,_⟩
  · exact absurd h hn
  rw [e] at h1;injection h1 with h1;injection h1 with h1 _ _;omega,hq⟩
 have HR2:=hdI (hr.later hb2);have hqz:q<y2.heap.size:=HR2.out.lt;clear hy hb2 hz2 C1 hat hr hb b0 HR HV;generalize Value.tuple #[.agg #[.string m.nm,.string m.tl,.string m.ar],.slice a ls.length c,.agg #[.int .i64 cd,.string tx]]=t9;generalize Value.agg #[.string m.nm,.string m.tl,.string m.ar]=t13;generalize Value.agg #[.int .i64 cd,.string tx]=t15;refine wp_region_inv (I:=fun l act u=>∃ (b0 b1 b2 b3 b4 b5 b6 b7 b8 b9 b10 b11 b12:Bool) (x8 x16 x17 x18 x19 x20 x21 x22 x23 x24 x25 x26:Value),l=#[b0,b1,b2,b3,b4,b5,b6,b7,b8,b9,b10,b11,b12]/\act=⟨#[.pointer (some ⟨q,0,none⟩),.agg #[.slice ta tf.length tc],undef,.pointer (some ⟨w.heap.size,0,none⟩),.pointer (some ⟨w.heap.size+1,0,none⟩),.pointer (some ⟨y1.heap.size,0,none⟩),.slice a ls.length c,.pointer (some ⟨y1.heap.size+1,0,none⟩),x8,t9,.pointer (some ⟨q,0,none⟩),.agg #[.slice ta tf.length tc],t9,t13,.slice a ls.length c,t15,x16,x17,x18,x19,x20,x21,x22,x23,x24,x25,x26,undef,undef,undef,undef,undef,undef,undef,undef,undef,undef,undef,undef,undef,undef,undef,undef,undef,undef,undef,undef,undef,undef,undef,undef,undef,undef,undef,undef,undef,undef,undef,undef,undef,undef,undef,undef,undef,undef,undef,undef,undef,undef,undef,undef,undef,undef,undef,undef,undef,undef,undef,undef,undef,undef,undef,undef,undef,undef,undef,undef,undef,undef,undef,undef,undef],[]⟩/\RG q (P+1) y2.heap.size (G2 q w y1.heap.size (y1.heap.size+1) y2.heap.size m cd tx a ls) b0 b1 b2 b3 b4 b5 b6 b7 b8 b9 b10 b11 b12 x8 x16 x17 x18 x19 x20 x21 x22 x23 x24 x25 x26 u) kr_ ?_ ?_ ?_
 · exact ⟨false,false,false,false,false,false,false,false,false,false,false,false,false,undef,undef,undef,undef,undef,undef,undef,undef,undef,undef,undef,undef,rfl,rfl,nofun,HG.out.but HR2.out (But.of_below (Below.refl _ _).drew),HR2.out.later (Below.refl _ _).drew,Nat.le_refl _,nofun,nofun,nofun,nofun,nofun,nofun,nofun,nofun,nofun,nofun,nofun,nofun⟩
 · intro l act u hI hrd
   obtain ⟨b0,b1,b2,b3,b4,b5,b6,b7,b8,b9,b10,b11,b12,x8,x16,x17,x18,x19,x20,x21,x22,x23,x24,x25,x26,rfl,rfl,H⟩:=hI;have e0:=ready_nil hrd (i:=0) rfl (by simp [Region.binds]);simp at e0;have e1:=ready_nil hrd (i:=1) rfl (by simp [Region.binds,e0]);simp at e1;have e2:=ready_nil hrd (i:=2) rfl (by simp [Region.binds,e0,e1]);simp at e2;have e3:=ready_nil hrd (i:=3) rfl (by simp [Region.binds,e0,e1,e2]);simp at e3;have e4:=ready_nil hrd (i:=4) rfl (by simp [Region.binds,e0,e1,e2,e3]);simp at e4;have e5:=ready_nil hrd (i:=5) rfl (by simp [Region.binds,e0,e1,e2,e3,e4]);simp at e5;have e6:=ready_nil hrd (i:=6) rfl (by simp [Region.binds,e0,e1,e2,e3,e4,e5]);simp at e6;have e7:=ready_nil hrd (i:=7) rfl (by simp [Region.binds,e0,e1,e2,e3,e4,e5,e6]);simp at e7;have e8:=ready_nil hrd (i:=8) rfl (by simp [Region.binds,e0,e1,e2,e3,e4,e5,e6,e7]);simp at e8;have e9:=ready_nil hrd (i:=9) rfl (by simp [Region.binds,e0,e1,e2,e3,e4,e5,e6,e7,e8]);simp at e9;have e10:=ready_nil hrd (i:=10) rfl (by simp [Region.binds,e0,e1,e2,e3,e4,e5,e6,e7,e8,e9]);simp at e10;have e11:=ready_nil hrd (i:=11) rfl (by simp [Region.binds,e0,e1,e2,e3,e4,e5,e6,e7,e8,e9,e10]);simp at e11;have e12:=ready_nil hrd (i:=12) rfl (by simp [Region.binds,e0,e1,e2,e3,e4,e5,e6,e7,e8,e9,e10,e11]);simp at e12;obtain ⟨B,rfl,hB,_,hC⟩:=H.h11 e11;obtain ⟨z,z',hC⟩:=hC e12;have HG:=hdI H.g;have HR:=hdI (H.rd.mono (P':=P+3) (by have:=Bool.toNat_le b2;have:=Bool.toNat_le b7;omega));have HC:=hdI hC;have hz0:=H.n0;clear H hC hrd e0 e1 e2 e3 e4 e5 e6 e7 e8 e9 e10 e11 e12
   go_wp2_with fail
   have hbA:Below u.heap.size u (u.alloc (.cells #[] 74)):=bA;refine (pickT (u.alloc (.cells #[] 74)) q (P+3) (ls.length+1) om_ om_ om_ (HR.out.later hbA)).mono ?_;rintro e y4 ⟨⟨r,rfl,r0,r1⟩,hr,ho⟩;obtain ⟨r,rfl⟩:=Int.eq_ofNat_of_zero_le r0;have hrl:r<=ls.length:=om_;have hqu:=HR.out.lt;have HO:Hid (y4.ownsRow u.heap.size 74 4 (.slice (some ⟨u.heap.size,0,none⟩) 0 0) 0 []):=own_but (row0 u 74 4 lr_) ho.but hqu;have G4:=hdI ((HG.out.but HR.out (But.of_below hbA)).but (HR.out.later hbA) ho.but);have C4:Hid (Cl y4 B 31 _):=(ho.block _ (by have:=HC.out.lt;omega)).trans (HC.out.below hbA HC.out.lt);have R4:=hdI hr;have hz4:u.heap.size<y4.heap.size:=by rw [ho.size];simp
   have hBu:=HC.out.lt;obtain ⟨a',hSl,hla⟩:=sl_run G4.out.la hrl hlc;have SR:Hid (Src y4 (.slice a' r c) 4 r (lkCells (ls.take r))):=(by
    have h:=lks_source (n:=c) hla;rw [List.length_take,Nat.min_eq_left hrl] at h;exact h)
   clear hr ho hbA HG HC HR hla
   go_wp2_with (at_builtin;refine wl_app rfl _ _ 25 rfl u.heap.size 74 4 underlying25 inf74 dc_ _ 0 [] rfl HO.out _ r (lkCells (ls.take r)) rfl SR.out (lkCells_one _) om_ om_ ?_;intro v1 y5 O1 g1 hn1;have HE:=hdI (mk7 (P:=P+4) O1 g1 R4.out G4.out C4.out hqu hBu hz0 hB hz4 hrl);clear O1 g1 hn1;obtain ⟨lb,ln,ls5,e5,h5,hls5⟩:=HE.out;subst e5;have H5:=hdI h5;clear h5 HE)
   have hr5:ls5.length=r:=by rw [hls5,List.length_take,Nat.min_eq_left hrl]
   have hs5:∀ i,(ls5.getD i M.l4z).le 999999:=by rw [hls5];exact take_le hs
   subst hr5;have hl5:ls5.length<=15:=om_;clear hls5 hSl SR HO G4 C4 R4 hs hrl hl hlc r0 r1 hz4 hz1 hC;refine (pickT y5 q (P+4) 4 om_ om_ om_ H5.out.rd).mono ?_;rintro e y6 ⟨⟨k,rfl,k0,k1⟩,hr,ho⟩;have H6:=hdI (H5.out.call hr ho.but);clear H5 hr ho;have c0:y6.cell? ⟨B,0,none⟩=some (.int .i64 0):=H6.out.cX.cell 0;have f0:=H6.out.cX.opn 0;obtain rfl | rfl | hk2:k=0\/k=1\/2<=k:=om_
   · go_wp2_with fail
     refine (pickT y6 q (P+4+1) 4 om_ om_ om_ H6.out.rd).mono ?_;rintro e y7 ⟨⟨k7,rfl,k70,k71⟩,hr,ho⟩;have H7:=hdI (H6.out.call hr ho.but);clear H6 hr ho c0 f0
     go_wp2_with (refine wp_stm rfl (.tmp 4) (.tmp 43) rfl (B:=w.heap.size+1) (j:=0) rfl (t:=31) (pre:=[]) (vs:=mc { M.g16z with kd:=3,fr:=1+k7 } none 0) (xs:=mc M.g16z none 0) rfl H7.out.cR rfl rfl rfl (mc_one _ _ _) rfl ?_;intro u8 C8 o8)
     exact H7.out.fin o8 C8 (ms_zero u8).le (.inl ⟨rfl,rfl,rfl⟩) om_ _ rfl
   · go_wp2_with fail
     have D6:=hdI (H6.out.set (x':={ M.g16z with kd:=1,ep:=z,ed:=z' }) 0 (.int .i64 1) rfl);refine (pickT _ q (P+4+1) 4 om_ om_ om_ D6.out.rd).mono ?_;rintro e y7 ⟨⟨k7,rfl,k70,k71⟩,hr,ho⟩;have H7:=hdI (D6.out.call hr ho.but);clear H6 D6 hr ho c0 f0;have c1:y7.cell? ⟨B,1,none⟩=some (.int .i64 0):=H7.out.cX.cell 1;have c5:y7.cell? ⟨B,5,none⟩=some (.string ⟨#[]⟩):=H7.out.cX.cell 5;have c6:y7.cell? ⟨B,6,none⟩=some (.string ⟨#[]⟩):=H7.out.cX.cell 6;have c7:y7.cell? ⟨B,7,none⟩=some (.string ⟨#[]⟩):=H7.out.cX.cell 7;have c8:y7.cell? ⟨B,8,none⟩=some (.slice none 0 0):=H7.out.cX.cell 8;have f1:=H7.out.cX.opn 1;have f5:=H7.out.cX.opn 5;have f6:=H7.out.cX.opn 6;have f7:=H7.out.cX.opn 7;have f8:=H7.out.cX.opn 8;have a0:y7.cell? ⟨y1.heap.size,0,none⟩=some (.string m.nm):=H7.out.cA.cell 0;have a1:y7.cell? ⟨y1.heap.size,1,none⟩=some (.string m.tl):=H7.out.cA.cell 1;have a2:y7.cell? ⟨y1.heap.size,2,none⟩=some (.string m.ar):=H7.out.cA.cell 2;have nA:=H7.out.cA.ne H7.out.cX dc_;have D8:=hdI (((((H7.out.set (x':={ M.g16z with kd:=1,to:=1+k7,ep:=z,ed:=z' }) 1 (.int .i64 (1+k7)) rfl).set (x':={ M.g16z with kd:=1,to:=1+k7,ep:=z,ed:=z',km:=⟨m.nm,⟨#[]⟩,⟨#[]⟩⟩ }) 5 (.string m.nm) rfl).set (x':={ M.g16z with kd:=1,to:=1+k7,ep:=z,ed:=z',km:=⟨m.nm,m.tl,⟨#[]⟩⟩ }) 6 (.string m.tl) rfl).set (x':={ M.g16z with kd:=1,to:=1+k7,ep:=z,ed:=z',km:=m }) 7 (.string m.ar) rfl).set (x':={ M.g16z with kd:=1,to:=1+k7,ep:=z,ed:=z',km:=m,ls:=ls5 }) 8 (.slice lb ls5.length ln) rfl (xb':=lb) (xn':=ln));obtain ⟨V,hV⟩:∃ V:List Value,V=mc { M.g16z with kd:=1,to:=1+k7,ep:=z,ed:=z',km:=m,ls:=ls5 } lb ln:=⟨_,rfl⟩;have CX:=D8.out.cX;rw [<- hV] at CX;have CX:Hid (Cl _ B 31 ([]++V)):=CX;have CR:Hid (Cl _ (w.heap.size+1) 31 ([]++mc M.g16z none 0)):=D8.out.cR;have VL:Hid (V.length=16):=by show _=_;rw [hV];rfl
     have V1:Hid (∀ v∈V,v.oneCell'=true):=by show ∀ v∈V,_;rw [hV];exact mc_one _ _ _
     have HV:=hdI hV;clear hV
     go_wp2_with (first | refine wp_ldm rfl (.tmp 8) rfl (B:=B) (j:=0) rfl (pre:=[]) (t:=31) (vs:=V) (by with_reducible exact CX.out) VL.out rfl ?_ | (refine wp_stm rfl (.tmp 4) (.tmp 55) rfl (B:=w.heap.size+1) (j:=0) rfl (t:=31) (pre:=[]) (vs:=V) (xs:=mc M.g16z none 0) rfl (by with_reducible exact CR.out) VL.out rfl rfl V1.out rfl ?_;intro u8 C8 o8))
     exact D8.out.fin o8 (by rw [HV.out] at C8;exact C8) ⟨hm,⟨(by show ls5.length<=_;omega),hs5⟩,⟨Nat.zero_le _,Nat.zero_le _⟩⟩ (.inr ⟨rfl,rfl,rfl⟩) om_ _ rfl
   have hk0:(k==0)=false:=so_;have hk1:(k==1)=false:=so_
   go_wp2_with fail
   have D6:=hdI (H6.out.set (x':={ M.g16z with kd:=2,ep:=z,ed:=z' }) 0 (.int .i64 2) rfl);refine (pickT _ q (P+4+1) 4 om_ om_ om_ D6.out.rd).mono ?_;rintro e y7 ⟨⟨k7,rfl,k70,k71⟩,hr,ho⟩;have H7:=hdI (D6.out.call hr ho.but);clear H6 D6 hr ho c0 f0;have c2:y7.cell? ⟨B,2,none⟩=some (.int .i64 0):=H7.out.cX.cell 2;have f2:=H7.out.cX.opn 2;have c5:y7.cell? ⟨B,5,none⟩=some (.string ⟨#[]⟩):=H7.out.cX.cell 5;have f5:=H7.out.cX.opn 5;have c9:y7.cell? ⟨B,9,none⟩=some (.int .i64 0):=H7.out.cX.cell 9;have f9:=H7.out.cX.opn 9;have a0:y7.cell? ⟨y1.heap.size,0,none⟩=some (.string m.nm):=H7.out.cA.cell 0;have a1:y7.cell? ⟨y1.heap.size,1,none⟩=some (.string m.tl):=H7.out.cA.cell 1;have a2:y7.cell? ⟨y1.heap.size,2,none⟩=some (.string m.ar):=H7.out.cA.cell 2;have nA:=H7.out.cA.ne H7.out.cX dc_;have D8:=hdI (((H7.out.set (x':={ M.g16z with kd:=2,fr:=1+k7,ep:=z,ed:=z' }) 2 (.int .i64 (1+k7)) rfl).set (x':={ M.g16z with kd:=2,fr:=1+k7,ep:=z,ed:=z',km:=⟨m.nm,⟨#[]⟩,⟨#[]⟩⟩ }) 5 (.string m.nm) rfl).set (x':={ M.g16z with kd:=2,fr:=1+k7,ep:=z,ed:=z',km:=⟨m.nm,⟨#[]⟩,⟨#[]⟩⟩,ct:=ls5.length }) 9 (.int .i64 ls5.length) rfl);rcases hT:goT m ls5 with ⟨to,tcd,ttx,th,tnm,tst⟩;have hsm:=goT_small m ls5;rw [hT] at hsm
   go_wp2_with fail
   refine (c26t m lb ln ls5 _ (le_mono3 hm om_) om_ (fun i=>le_mono4 (hs5 i) om_) D8.out.la hT).mono ?_;rintro e y9 ⟨rfl,hb⟩;have H9:=hdI (D8.out.later hb);have hsx:Sx { M.g16z with kd:=2,fr:=1+k7,ep:=z,ed:=z',km:=⟨m.nm,⟨#[]⟩,⟨#[]⟩⟩,ct:=ls5.length }:=⟨⟨⟨hm.1,Nat.zero_le _,Nat.zero_le _⟩,⟨Nat.zero_le _,fun i=>⟨Nat.zero_le _,Nat.zero_le _⟩⟩,⟨Nat.zero_le _,Nat.zero_le _⟩⟩,rfl⟩;clear hT D8 H7 hb c2 f2 c5 f5 c9 f9 a0 a1 a2 hs5;generalize ({ M.g16z with kd:=2,fr:=1+k7,ep:=z,ed:=z',km:=⟨m.nm,⟨#[]⟩,⟨#[]⟩⟩,ct:=ls5.length }:M.G16)=x9 at H9 hsx;have c10:y9.cell? ⟨B,10,none⟩=some (.bool x9.tn.over):=H9.out.cX.cell 10;have f10:=H9.out.cX.opn 10;have c11:y9.cell? ⟨B,11,none⟩=some (.int .i64 x9.tn.cd):=H9.out.cX.cell 11;have f11:=H9.out.cX.opn 11;have c12:y9.cell? ⟨B,12,none⟩=some (.string x9.tn.tx):=H9.out.cX.cell 12;have f12:=H9.out.cX.opn 12;have c13:y9.cell? ⟨B,13,none⟩=some (.bool x9.tn.has):=H9.out.cX.cell 13;have f13:=H9.out.cX.opn 13;have c14:y9.cell? ⟨B,14,none⟩=some (.string x9.tn.nm):=H9.out.cX.cell 14;have f14:=H9.out.cX.opn 14;have c15:y9.cell? ⟨B,15,none⟩=some (.int .i64 x9.tn.st):=H9.out.cX.cell 15;have f15:=H9.out.cX.opn 15
   go_wp2_with fail
   have D10:=hdI (H9.out.turn ⟨to,tcd,ttx,th,tnm,tst⟩);refine (pickT _ q (P+4+1+1) 4 om_ om_ om_ D10.out.rd).mono ?_;rintro e y11 ⟨⟨k11,rfl,k110,k111⟩,hr,ho⟩;have H11:=hdI (D10.out.call hr ho.but);have hsx:=hsx.turn ⟨to,tcd,ttx,th,tnm,tst⟩ (Nat.le_trans hsm.1 om_) (Nat.le_trans hsm.2 om_);clear c10 f10 c11 f11 c12 f12 c13 f13 c14 f14 c15 f15;clear D10 H9 hr ho;generalize ({ x9 with tn:=⟨to,tcd,ttx,th,tnm,tst⟩ }:M.G16)=x11 at H11 hsx;have mark:True:=trivial;rcases Classical.em (k11=0) with h11 | h11
   case' inl=>
    subst h11
    go_wp2_with fail
    have hbd:Below y11.heap.size y11 y11.drew:=(Below.refl _ _).drew;have H12:=hdI (H11.out.later hbd);refine wp_region_held_drew (S:=fun u=>u.cell? ⟨y1.heap.size+1,0,none⟩=some (.int .i64 cd)/\u.cell? ⟨y1.heap.size+1,1,none⟩=some (.string tx)) kr_ ⟨H12.out.cB.cell 0,H12.out.cB.cell 1⟩ fun hH=>?_;clear H11 hbd;generalize y11.drew=y12 at H12 hH ⊢;refine tq 0 hH ?_
    try simp only [qq]
    refine tq 1 hH ?_
    try simp only [qq]
    refine tq 2 hH ?_
    try simp only [qq]
    refine tq 3 hH ?_
    try simp only [qq]
    refine tq 4 hH ?_
    try simp only [qq]
    refine rq 5 fun K hK=>?_;go_simp;refine (pickT y12 q _ 5 om_ om_ om_ H12.out.rd).mono ?_;rintro e y13 ⟨⟨k13,rfl,k130,k131⟩,hr,ho⟩;have H13:=hdI (H12.out.call hr ho.but);clear H12 hr ho hH;go_simp;refine hK.out _ _ ⟨H13.out.cB.cell 0,H13.out.cB.cell 1⟩ fun hH=>?_;clear hK K
    try simp only [qq]
    refine rq 6 fun K hK=>?_;go_simp;refine (c40 cd tx k13 y13).mono ?_;rintro e y14 ⟨rfl,hb⟩;have H14:=hdI (H13.out.later hb);clear H13 hb hH;unfold TN.v overT;go_simp;refine hK.out _ _ ⟨H14.out.cB.cell 0,H14.out.cB.cell 1⟩ fun hH=>?_;clear hK K
    try simp only [qq]
    have D15:=hdI (H14.out.turn ⟨true,cd,tx,false,⟨#[]⟩,k13⟩);have c10:y14.cell? ⟨B,10,none⟩=some (.bool x11.tn.over):=H14.out.cX.cell 10;have f10:=H14.out.cX.opn 10;have c11:y14.cell? ⟨B,11,none⟩=some (.int .i64 x11.tn.cd):=H14.out.cX.cell 11;have f11:=H14.out.cX.opn 11;have c12:y14.cell? ⟨B,12,none⟩=some (.string x11.tn.tx):=H14.out.cX.cell 12;have f12:=H14.out.cX.opn 12;have c13:y14.cell? ⟨B,13,none⟩=some (.bool x11.tn.has):=H14.out.cX.cell 13;have f13:=H14.out.cX.opn 13;have c14:y14.cell? ⟨B,14,none⟩=some (.string x11.tn.nm):=H14.out.cX.cell 14;have f14:=H14.out.cX.opn 14;have c15:y14.cell? ⟨B,15,none⟩=some (.int .i64 x11.tn.st):=H14.out.cX.cell 15;have f15:=H14.out.cX.opn 15;refine tq 7 hH ?_
    try simp only [qq]
    refine rq 8 fun K hK=>?_;go_simp;clear hH;refine hK.out _ _ ⟨D15.out.cB.cell 0,D15.out.cB.cell 1⟩ fun hH=>?_;clear hK K
    try simp only [qq]
    refine wpAnyH_done kr_ ?_ _;have hsx:=hsx.turn ⟨true,cd,tx,false,⟨#[]⟩,k13⟩ htx (Nat.zero_le _);have H16:Hid (D7 q (P+8) w _ _ B _ none 0 m cd tx lb ln ls5 _):=D15.out;clear c10 f10 c11 f11 c12 f12 c13 f13 c14 f14 c15 f15;clear D15 H14 hH;generalize ({ x11 with tn:=⟨true,cd,tx,false,⟨#[]⟩,k13⟩ }:M.G16)=x16 at H16 hsx;generalize ((((((y14.setCell ⟨B,10,none⟩ (.bool true)).setCell ⟨B,11,none⟩ (.int .i64 cd)).setCell ⟨B,12,none⟩ (.string tx)).setCell ⟨B,13,none⟩ (.bool false)).setCell ⟨B,14,none⟩ (.string ⟨#[]⟩)).setCell ⟨B,15,none⟩ (.int .i64 k13))=y16 at H16 ⊢;revert mark
   case' inr=>
    have hr11:(k11==0)=false:=by simpa using h11
    have H16:Hid (D7 q (P+8) w _ _ B _ none 0 m cd tx lb ln ls5 _):=H11.out.call (H11.out.rd.mono om_) (But.refl _ _);clear H11;generalize x11=x16 at H16 hsx;generalize y11=y16 at*;revert mark
   all_goals
    intro _
    go_wp2_with fail
    refine (pickT y16 q _ 6 om_ om_ om_ H16.out.rd).mono ?_;rintro e y17 ⟨⟨k17,rfl,k170,k171⟩,hr,ho⟩;have H17:=hdI (H16.out.call hr ho.but);clear H16 hr ho;rcases Classical.em (k17=0) with h17 | h17;rotate_left
    · have hr17:(k17==0)=false:=by simpa using h17
      obtain ⟨V,hV⟩:∃ V:List Value,V=mc x16 none 0:=⟨_,rfl⟩;have CX:=H17.out.cX;rw [<- hV] at CX;have CX:Hid (Cl _ B 31 ([]++V)):=CX;have CR:Hid (Cl _ (w.heap.size+1) 31 ([]++mc M.g16z none 0)):=H17.out.cR;have VL:Hid (V.length=16):=by show _=_;rw [hV];rfl
      have V1:Hid (∀ v∈V,v.oneCell'=true):=by show ∀ v∈V,_;rw [hV];exact mc_one _ _ _
      have HV:=hdI hV;clear hV
      go_wp2_with (first | refine wp_ldm rfl (.tmp 8) rfl (B:=B) (j:=0) rfl (pre:=[]) (t:=31) (vs:=V) (by with_reducible exact CX.out) VL.out rfl ?_ | (refine wp_stm rfl (.tmp 4) (.tmp 91) rfl (B:=w.heap.size+1) (j:=0) rfl (t:=31) (pre:=[]) (vs:=V) (xs:=mc M.g16z none 0) rfl (by with_reducible exact CR.out) VL.out rfl rfl V1.out rfl ?_;intro u8 C8 o8))
      exact H17.out.fin o8 (by rw [HV.out] at C8;exact C8) hsx.1 (.inl ⟨hsx.2,rfl,rfl⟩) om_ _ rfl
    subst h17
    go_wp2_with fail
    refine (pickT y17 q _ 2 om_ om_ om_ H17.out.rd).mono ?_;rintro e y18 ⟨⟨k18,rfl,k180,k181⟩,hr,ho⟩;have H18:=hdI (H17.out.call hr ho.but);clear H17 hr ho;have D19:=hdI (H18.out.turn ⟨false,0,⟨#[]⟩,k18==0,⟨#[97]⟩,0⟩);have hsx:=hsx.turn ⟨false,0,⟨#[]⟩,k18==0,⟨#[97]⟩,0⟩ (Nat.zero_le _) (by show (1:Nat)<=999999;omega);have c10:y18.cell? ⟨B,10,none⟩=some (.bool x16.tn.over):=H18.out.cX.cell 10;have f10:=H18.out.cX.opn 10;have c11:y18.cell? ⟨B,11,none⟩=some (.int .i64 x16.tn.cd):=H18.out.cX.cell 11;have f11:=H18.out.cX.opn 11;have c12:y18.cell? ⟨B,12,none⟩=some (.string x16.tn.tx):=H18.out.cX.cell 12;have f12:=H18.out.cX.opn 12;have c13:y18.cell? ⟨B,13,none⟩=some (.bool x16.tn.has):=H18.out.cX.cell 13;have f13:=H18.out.cX.opn 13;have c14:y18.cell? ⟨B,14,none⟩=some (.string x16.tn.nm):=H18.out.cX.cell 14;have f14:=H18.out.cX.opn 14;have c15:y18.cell? ⟨B,15,none⟩=some (.int .i64 x16.tn.st):=H18.out.cX.cell 15;have f15:=H18.out.cX.opn 15;obtain ⟨V,hV⟩:∃ V:List Value,V=mc { x16 with tn:=⟨false,0,⟨#[]⟩,k18==0,⟨#[97]⟩,0⟩ } none 0:=⟨_,rfl⟩;have CX:=D19.out.cX;rw [<- hV] at CX;have CX:Hid (Cl _ B 31 ([]++V)):=CX;have CR:Hid (Cl _ (w.heap.size+1) 31 ([]++mc M.g16z none 0)):=D19.out.cR;have VL:Hid (V.length=16):=by show _=_;rw [hV];rfl
    have V1:Hid (∀ v∈V,v.oneCell'=true):=by show ∀ v∈V,_;rw [hV];exact mc_one _ _ _
    have HV:=hdI hV;clear hV
    go_wp2_with (first | refine wp_ldm rfl (.tmp 8) rfl (B:=B) (j:=0) rfl (pre:=[]) (t:=31) (vs:=V) (by with_reducible exact CX.out) VL.out rfl ?_ | (refine wp_stm rfl (.tmp 4) (.tmp 91) rfl (B:=w.heap.size+1) (j:=0) rfl (t:=31) (pre:=[]) (vs:=V) (xs:=mc M.g16z none 0) rfl (by with_reducible exact CR.out) VL.out rfl rfl V1.out rfl ?_;intro u8 C8 o8))
    exact D19.out.fin o8 (by rw [HV.out] at C8;exact C8) hsx.1 (.inl ⟨hsx.2,rfl,rfl⟩) om_ _ rfl
 intro l act u i o hI ho hl hd K' hK;obtain ⟨b0,b1,b2,b3,b4,b5,b6,b7,b8,b9,b10,b11,b12,x8,x16,x17,x18,x19,x20,x21,x22,x23,x24,x25,x26,rfl,rfl,H⟩:=hI;have hi:i<13:=by have:=(Array.getElem?_eq_some_iff.1 ho).1;simpa using this
 obtain rfl | rfl | rfl | rfl | rfl | rfl | rfl | rfl | rfl | rfl | rfl | rfl | rfl:i=0\/i=1\/i=2\/i=3\/i=4\/i=5\/i=6\/i=7\/i=8\/i=9\/i=10\/i=11\/i=12:=om_
 all_goals simp at ho hl
 all_goals subst ho hl
 all_goals simp [Region.binds] at hd
 · go_simp
   have hb:=But.of_below (b:=q) ((Below.refl u.heap.size u).alloc lr_ (.cells #[.int .i64 1,.int .i64 1,.int .i64 2,.int .i64 200] 3));have k:=H.to (P':=P+1) hqz hb (H.g.but H.rd hb) (H.rd.later bA);exact hK _ _ ⟨true,b1,b2,b3,b4,b5,b6,b7,b8,b9,b10,b11,b12,x8,.slice (some ⟨u.heap.size,0,none⟩) 4 4,x17,x18,x19,x20,x21,x22,x23,x24,x25,x26,rfl,rfl,{ k with h0:=fun _=>⟨_,rfl,ia_new H.rd.lt _ _ _ _⟩ }⟩
 · go_simp
   exact hK _ _ ⟨b0,true,b2,b3,b4,b5,b6,b7,b8,b9,b10,b11,b12,x8,x16,.pointer (some ⟨q,0,none⟩),x18,x19,x20,x21,x22,x23,x24,x25,x26,rfl,rfl,{ H with h1:=fun _=>rfl }⟩
 · obtain rfl:=hd
   obtain rfl:=H.h1 rfl;have hbn:=Bool.toNat_le b7;go_simp;refine (pickT u q _ 4 om_ om_ (by simp <;> omega) H.rd).mono ?_;rintro e u' ⟨⟨r,rfl,r0,r1⟩,hr,ho⟩;obtain ⟨r,rfl⟩:=Int.eq_ofNat_of_zero_le r0;have k:=H.to (P':=P+2) hqz ho.but (H.g.but H.rd ho.but) (hr.mono (by simp <;> omega));go_simp;exact hK _ _ ⟨b0,true,true,b3,b4,b5,b6,b7,b8,b9,b10,b11,b12,x8,x16,.pointer (some ⟨q,0,none⟩),.int .i64 r,x19,x20,x21,x22,x23,x24,x25,x26,rfl,rfl,{ k with rd:=k.rd.mono (by simp <;> omega),h2:=fun _=>⟨r,rfl,om_⟩ }⟩
 · obtain ⟨rfl,rfl⟩:=hd
   obtain ⟨A,rfl,hA⟩:=H.h0 rfl;obtain ⟨r,rfl,hr4⟩:=H.h2 rfl;have hrI:(r:Int)<4:=om_;go_simp;exact hK _ _ ⟨true,b1,true,true,b4,b5,b6,b7,b8,b9,b10,b11,b12,x8,.slice (some ⟨A,0,none⟩) 4 4,x17,.int .i64 r,.pointer (some ⟨A,r,none⟩),x20,x21,x22,x23,x24,x25,x26,rfl,rfl,{ H with h3:=fun _=>⟨A,r,rfl,hr4,hA⟩ }⟩
 · obtain rfl:=hd
   obtain ⟨A,r,rfl,hr4,hA⟩:=H.h3 rfl;obtain ⟨z,hz⟩:=hA.2.choose_spec.2 r hr4;have cz:=(hA.2.choose_spec.1.cell r).trans hz;go_simp;exact hK _ _ ⟨b0,b1,b2,true,true,b5,b6,b7,b8,b9,b10,b11,b12,x8,x16,x17,x18,.pointer (some ⟨A,r,none⟩),.int .i64 z,x21,x22,x23,x24,x25,x26,rfl,rfl,{ H with h4:=fun _=>⟨z,rfl⟩ }⟩
 · go_simp
   have hb:=But.of_below (b:=q) ((Below.refl u.heap.size u).alloc lr_ (.cells #[.int .i64 0,.int .i64 1,.int .i64 7,.int .i64 1000] 3));have k:=H.to (P':=P+1) hqz hb (H.g.but H.rd hb) (H.rd.later bA);exact hK _ _ ⟨b0,b1,b2,b3,b4,true,b6,b7,b8,b9,b10,b11,b12,x8,x16,x17,x18,x19,x20,.slice (some ⟨u.heap.size,0,none⟩) 4 4,x22,x23,x24,x25,x26,rfl,rfl,{ k with h5:=fun _=>⟨_,rfl,ia_new H.rd.lt _ _ _ _⟩ }⟩
 · go_simp
   exact hK _ _ ⟨b0,b1,b2,b3,b4,b5,true,b7,b8,b9,b10,b11,b12,x8,x16,x17,x18,x19,x20,x21,.pointer (some ⟨q,0,none⟩),x23,x24,x25,x26,rfl,rfl,{ H with h6:=fun _=>rfl }⟩
 · obtain ⟨rfl,rfl⟩:=hd
   obtain rfl:=H.h6 rfl;have hbn:True:=trivial;go_simp;refine (pickT u q _ 4 om_ om_ (by simp <;> omega) H.rd).mono ?_;rintro e u' ⟨⟨r,rfl,r0,r1⟩,hr,ho⟩;obtain ⟨r,rfl⟩:=Int.eq_ofNat_of_zero_le r0;have k:=H.to (P':=P+2) hqz ho.but (H.g.but H.rd ho.but) (hr.mono (by simp <;> omega));go_simp;exact hK _ _ ⟨b0,b1,true,b3,b4,b5,true,true,b8,b9,b10,b11,b12,x8,x16,x17,x18,x19,x20,x21,.pointer (some ⟨q,0,none⟩),.int .i64 r,x24,x25,x26,rfl,rfl,{ k with rd:=k.rd.mono (by simp <;> omega),h7:=fun _=>⟨r,rfl,om_⟩ }⟩
 · obtain ⟨rfl,rfl⟩:=hd
   obtain ⟨A,rfl,hA⟩:=H.h5 rfl;obtain ⟨r,rfl,hr4⟩:=H.h7 rfl;have hrI:(r:Int)<4:=om_;go_simp;exact hK _ _ ⟨b0,b1,b2,b3,b4,true,b6,true,true,b9,b10,b11,b12,x8,x16,x17,x18,x19,x20,.slice (some ⟨A,0,none⟩) 4 4,x22,.int .i64 r,.pointer (some ⟨A,r,none⟩),x25,x26,rfl,rfl,{ H with h8:=fun _=>⟨A,r,rfl,hr4,hA⟩ }⟩
 · obtain rfl:=hd
   obtain ⟨A,r,rfl,hr4,hA⟩:=H.h8 rfl;obtain ⟨z,hz⟩:=hA.2.choose_spec.2 r hr4;have cz:=(hA.2.choose_spec.1.cell r).trans hz;go_simp;exact hK _ _ ⟨b0,b1,b2,b3,b4,b5,b6,b7,true,true,b10,b11,b12,x8,x16,x17,x18,x19,x20,x21,x22,x23,.pointer (some ⟨A,r,none⟩),.int .i64 z,x26,rfl,rfl,{ H with h9:=fun _=>⟨z,rfl⟩ }⟩
 · obtain ⟨rfl,rfl⟩:=hd
   obtain ⟨z,rfl⟩:=H.h4 rfl;obtain ⟨z',rfl⟩:=H.h9 rfl;go_simp;exact hK _ _ ⟨b0,b1,b2,b3,true,b5,b6,b7,b8,true,true,b11,b12,x8,x16,x17,x18,x19,.int .i64 z,x21,x22,x23,x24,.int .i64 z',_,rfl,rfl,{ H with h10:=fun _=>⟨z,z',rfl⟩ }⟩
 · go_simp
   have hb:=But.of_below (b:=q) ((Below.refl u.heap.size u).alloc lr_ (.cells (mc M.g16z none 0).toArray 31));have k:=H.to (P':=P+1) hqz hb (H.g.but H.rd hb) (H.rd.later bA);have hb12:b12=false:=by cases b12 <;> first | rfl | exact absurd (H.h12 rfl) dc_
   subst hb12;exact hK _ _ ⟨b0,b1,b2,b3,b4,b5,b6,b7,b8,b9,b10,true,false,.pointer (some ⟨u.heap.size,0,none⟩),x16,x17,x18,x19,x20,x21,x22,x23,x24,x25,x26,rfl,rfl,{ k with h12:=fun _=>rfl,h11:=fun _=>⟨_,rfl,H.n0,fun _=>cl_new u _ 31,nofun⟩ }⟩
 obtain ⟨B,rfl,hB,hC,_⟩:=H.h11 hd.1;obtain ⟨z,z',rfl⟩:=H.h10 hd.2.1;have hC:=hC rfl;refine st_stN rfl 31 (.tmp 8) (.tmp 26) rfl (B:=B) (j:=0) (t:=31) (xs:=mc M.g16z none 0) (vs:=mc { M.g16z with ep:=z,ed:=z' } none 0) rfl rfl hC (by simp [mc]) (mc_one _ _ _) kr_ (fun u' k1 k2=>?_);rw [putL_all (xs:=mc M.g16z none 0) (vs:=mc { M.g16z with ep:=z,ed:=z' } none 0) rfl] at k1;refine hK _ _ ⟨b0,b1,b2,b3,b4,b5,b6,b7,b8,b9,b10,b11,true,.pointer (some ⟨B,0,none⟩),x16,x17,x18,x19,x20,x21,x22,x23,x24,x25,_,rfl,rfl,⟨fun _=>hd.1,H.g.on hB k2,H.rd.laterB (k2.below lr_) om_,by rw [k2.size];exact H.n0,fun e=>(H.h0 e).imp fun _ k=>⟨k.1,k.2.on hC k2⟩,H.h1,H.h2,fun e=>by obtain ⟨A,r,k1,k3,k4⟩:=H.h3 e;exact ⟨A,r,k1,k3,k4.on hC k2⟩,H.h4,fun e=>(H.h5 e).imp fun _ k=>⟨k.1,k.2.on hC k2⟩,H.h6,H.h7,fun e=>by obtain ⟨A,r,k1,k3,k4⟩:=H.h8 e;exact ⟨A,r,k1,k3,k4.on hC k2⟩,H.h9,fun _=>⟨z,z',rfl⟩,fun _=>⟨B,rfl,hB,nofun,fun _=>⟨z,z',k1⟩⟩⟩⟩
end Go.Proofs.YthjhakdpikdoeaaGreatDoor
