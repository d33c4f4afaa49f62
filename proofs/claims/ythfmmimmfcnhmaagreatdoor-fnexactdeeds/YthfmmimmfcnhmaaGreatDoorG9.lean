import Derived.Test.YthfmmimmfcnhmaaGreatDoorG6
import Derived.Test.YthfmmimmfcnhmaaGreatDoorZ37
import Derived.Test.YthfmmimmfcnhmaaGreatDoorZ39
namespace Go.Proofs.YthfmmimmfcnhmaaGreatDoor
open Go.RowKit
variable {ar tl:ByteArray} {t:TN} {s:RS} {x:M.L4} {ls xs:List M.L4} {m:M3} {u w:World}
theorem c104 (base b0 b1 b2 b3:Nat) (nm tl ar:ByteArray) (s:RS) (v1 v2:Value) (r:R2) (w:World) (h:RunW base b0 b1 b2 b3 w nm tl ar s v1 v2) (hok:RSOk s) (hrn:s.reps.length<=300) (hts:r.tx.size<=1048576) (har:ar.size<=1048576) (hsh:ShapesAt w) (hmx:MaxAt w) (hba:10<=base):
 Calls Tryz.prog 104 #[.agg #[.int .i64 r.code,.string r.tx],.pointer (some ⟨b0,0,none⟩),.pointer (some ⟨b1,0,none⟩),.pointer (some ⟨b2,0,none⟩),.pointer (some ⟨b3,0,none⟩)] w fun e w'=>e=.returned (nextR tl ar s r).1.v/\(∃ v1' v2',RunW base b0 b1 b2 b3 w' nm tl ar (nextR tl ar s r).2 v1' v2'/\Nw w v1 v1'/\Nw w v2 v2')/\Ex (FP b0 b1 b2 v1) w w':=by
 obtain ⟨hs,T,reps⟩:=s
 cases hs
 rotate_left
 · have e:nextR tl ar ⟨true,T,reps⟩ r=(nextT T ar (reps++[r]),⟨true,T,reps++[r]⟩):=by simp [nextR]
   rw [e]
   exact c104h base b0 b1 b2 b3 nm tl ar T reps v1 v2 r w h hrn ⟨by have:=hok.tl;show T.length<=_;exact Nat.le_trans this (by omega),fun i=>Nat.le_trans (hok.ts i) (by omega),har,by simp;have:reps.length<=300:=hrn;omega,snoc_small hok.rs hts⟩ hsh hmx hba
 obtain ⟨c,tx⟩:=r
 by_cases h0:c=0
 · subst h0
   have e:nextR tl ar ⟨false,T,reps⟩ ⟨0,tx⟩=(firstR tl ar tx.data.toList,⟨(readT tx.data.toList).2,(readT tx.data.toList).1,reps⟩):=by simp [nextR]
   rw [e]
   refine (c104r base b0 b1 b2 b3 nm tl ar T reps v1 v2 tx w h hts har hsh hmx hba).mono ?_
   rintro e w' ⟨rfl,⟨v,hx,hn⟩,hb⟩
   exact ⟨rfl,⟨v1,v,hx,nw_refl _ _,hn⟩,hb⟩
 by_cases h4:c=4
 · subst h4
   have e:nextR tl ar ⟨false,T,reps⟩ ⟨4,tx⟩=(overT 4 tl 0,⟨false,T,reps⟩):=by simp [nextR]
   rw [e]
   refine (c104m base b0 b1 b2 b3 nm tl ar T reps v1 v2 tx w h).mono ?_
   rintro e w' ⟨rfl,hx,hb⟩
   exact ⟨rfl,⟨v1,v2,hx,nw_refl _ _,nw_refl _ _⟩,.ofB hb⟩
 have e:nextR tl ar ⟨false,T,reps⟩ ⟨c,tx⟩=(overT 5 tl 0,⟨false,T,reps⟩):=by simp [nextR,h0,h4]
 rw [e]
 refine (c104b base b0 b1 b2 b3 nm tl ar T reps v1 v2 c h0 h4 tx w h).mono ?_
 rintro e w' ⟨rfl,hx,hb⟩
 exact ⟨rfl,⟨v1,v2,hx,nw_refl _ _,nw_refl _ _⟩,.ofB hb⟩
def Halt (t:TN) (x:M.L4):Prop:=t.over=true\/x.has≠t.has\/x.nm≠t.name\/¬ M.LkOk x
open Classical in
noncomputable def goL (tl ar:ByteArray):TN->RS->List M.L4->TN
 | t,_,[]=>t
 | t,s,x::xs=>if Halt t x then zeroT else goL tl ar (nextR tl ar s ⟨x.cd,x.tx⟩).1 (nextR tl ar s ⟨x.cd,x.tx⟩).2 xs
open Classical in
theorem goL_halt (h:Halt t x):goL tl ar t s (x::xs)=zeroT:=by
 show (if _ then _ else _)=_
 exact if_pos h
open Classical in
theorem goL_go (h:¬ Halt t x):goL tl ar t s (x::xs)=goL tl ar (nextR tl ar s ⟨x.cd,x.tx⟩).1 (nextR tl ar s ⟨x.cd,x.tx⟩).2 xs:=by
 show (if _ then _ else _)=_
 exact if_neg h
def turn0 (tl:ByteArray):TN:=⟨false,0,⟨#[]⟩,false,tl,0⟩
open Classical in
noncomputable def goT (m:M3) (ls:List M.L4):TN:=if okM m=true/\ls.length<=15 then goL m.tl m.ar (turn0 m.tl) rs0 ls else zeroT
theorem goT_no (h:okM m=false\/15<ls.length):goT m ls=zeroT:=by
 unfold goT
 refine if_neg fun h'=>?_
 rcases h with h | h
 · rw [h'.1] at h;cases h
 omega
theorem goT_yes (h:okM m=true) (h2:ls.length<=15):goT m ls=goL m.tl m.ar (turn0 m.tl) rs0 ls:=if_pos ⟨h,h2⟩
theorem drop_get {k:Nat} (h:k<ls.length):ls.drop k=ls.getD k M.l4z::ls.drop (k+1):=by
 rw [List.drop_eq_getElem_cons h]
 congr 1
 simp [List.getD,h]
def WG (m:M3) (w:World):World:=(w.alloc (.cells #[.string m.nm,.string m.tl,.string m.ar] 50)).alloc (.cells #[.bool false,.int .i64 0,.string ⟨#[]⟩,.bool false,.string ⟨#[]⟩,.int .i64 0] 112)
theorem WG_size (m:M3) (w:World):(WG m w).heap.size=w.heap.size+2:=by simp [WG]
theorem WG_below (m:M3) (w:World):Below w.heap.size w (WG m w):=((Below.refl _ _).alloc (Nat.le_refl _) _).alloc (by simp) _
theorem WG_z (h:Below (w.heap.size+2) (WG m w) u):u.heap[w.heap.size+1]?=some (.cells z6 112 (0,0)):=by
 rw [h.block _ (by omega)]
 exact alloc_new (by simp) _
theorem WG_m (h:Below (w.heap.size+2) (WG m w) u):u.cell? ⟨w.heap.size,0,none⟩=some (.string m.nm)/\u.cell? ⟨w.heap.size,1,none⟩=some (.string m.tl)/\u.cell? ⟨w.heap.size,2,none⟩=some (.string m.ar):=by
 have e:u.heap[w.heap.size]?=some (.cells #[.string m.nm,.string m.tl,.string m.ar] 50 (0,0)):=by
  rw [h.block _ (by omega),WG,Lib.alloc_old _ _ _ (by simp)]
  exact alloc_new rfl _
 exact ⟨Lib.cell_of_heap e 0,Lib.cell_of_heap e 1,Lib.cell_of_heap e 2⟩
end Go.Proofs.YthfmmimmfcnhmaaGreatDoor
namespace Go.Proofs.YthfmmimmfcnhmaaGreatDoor
open Go.RowKit
variable {u:World} {B k:Nat} {t:TN}
def T6At (u:World) (B:Nat) (t:TN):Prop:=u.heap[B]?=some (.cells #[.bool t.over,.int .i64 t.code,.string t.text,.bool t.has,.string t.name,.int .i64 t.steps] 112 (0,0))
theorem T6At.set (h:T6At u B t) (t':TN):T6At ((((((u.setCell ⟨B,0,none⟩ (.bool t'.over)).setCell ⟨B,1,none⟩ (.int .i64 t'.code)).setCell ⟨B,2,none⟩ (.string t'.text)).setCell ⟨B,3,none⟩ (.bool t'.has)).setCell ⟨B,4,none⟩ (.string t'.name)).setCell ⟨B,5,none⟩ (.int .i64 t'.steps)) B t':=by
 have h0:=heap_setCell_same u B 0 _ 112 (.bool t'.over) h
 have h1:=heap_setCell_same _ B 1 _ 112 (.int .i64 t'.code) h0
 have h2:=heap_setCell_same _ B 2 _ 112 (.string t'.text) h1
 have h3:=heap_setCell_same _ B 3 _ 112 (.bool t'.has) h2
 have h4:=heap_setCell_same _ B 4 _ 112 (.string t'.name) h3
 exact heap_setCell_same _ B 5 _ 112 (.int .i64 t'.steps) h4
theorem T6At.cells (h:T6At u B t):u.cell? ⟨B,0,none⟩=some (.bool t.over)/\u.cell? ⟨B,1,none⟩=some (.int .i64 t.code)/\u.cell? ⟨B,2,none⟩=some (.string t.text)/\u.cell? ⟨B,3,none⟩=some (.bool t.has)/\u.cell? ⟨B,4,none⟩=some (.string t.name)/\u.cell? ⟨B,5,none⟩=some (.int .i64 t.steps)/\∀ j,u.frozen? ⟨B,j,none⟩=false:=
 ⟨Lib.cell_of_heap h 0,Lib.cell_of_heap h 1,Lib.cell_of_heap h 2,Lib.cell_of_heap h 3,Lib.cell_of_heap h 4,Lib.cell_of_heap h 5,fun j=>Lib.frozen_of_heap h j⟩
theorem T6At.blk (h:T6At u B t):M.BlkAt u B [.bool t.over,.int .i64 t.code,.string t.text,.bool t.has,.string t.name,.int .i64 t.steps]:=fun j v e=>by
 rw [Lib.cell_of_heap h j]
 simpa using e
theorem T6At.below {u':World} {N:Nat} (h:T6At u B t) (hb:Below N u u') (hN:B<N):T6At u' B t:=(hb.block B hN).trans h
theorem wp_turn {ops:Array Oper} {rest:List Oper} {o:Oper} {a:Act} {Q:Exit->Act->World->Prop} (hgd:o.guard=none) (x y:Operand) (ho:o.op=.store 112 x y) (B:Nat) (hx:a.eval x=.pointer (some ⟨B,0,none⟩)) (t t0:TN) (hy:a.eval y=t.v) (hT:T6At u B t0) (hdst:o.dst=none)
 (h:∀ u',T6At u' B t->(∀ m,m<=B->Below m u u')->(∀ k,k≠B->u'.heap[k]?=u.heap[k]?)->wpList Tryz.prog ops Q rest a u'):wpList Tryz.prog ops Q (o::rest) a u:=by
 refine M.wpList_store_blk (P:=Tryz.prog) hgd 112 x y ho B 0 hx [.bool t.over,.int .i64 t.code,.string t.text,.bool t.has,.string t.name,.int .i64 t.steps] hy (fun i hi=>?_) (fun j=>Lib.frozen_of_heap hT j) (by intro v hv;simp at hv;rcases hv with rfl | rfl | rfl | rfl | rfl | rfl <;> rfl) (by kernel_rfl) hdst ?_
 · rw [Nat.zero_add,Lib.cell_of_heap hT i]
   have hi':i<6:=hi
   simp [hi']
 refine h _ (hT.set t) (fun m hm=>set6_below hm _ _ _ _ _ _) (fun k hk=>?_)
 show ((((((u.setCell ⟨B,0,none⟩ _).setCell ⟨B,1,none⟩ _).setCell ⟨B,2,none⟩ _).setCell ⟨B,3,none⟩ _).setCell ⟨B,4,none⟩ _).setCell ⟨B,5,none⟩ _).heap[k]?=_
 simp only [heap_setCell_other _ _ _ _ (show k≠(⟨B,0,none⟩:Addr).block from hk),heap_setCell_other _ _ _ _ (show k≠(⟨B,1,none⟩:Addr).block from hk),heap_setCell_other _ _ _ _ (show k≠(⟨B,2,none⟩:Addr).block from hk),heap_setCell_other _ _ _ _ (show k≠(⟨B,3,none⟩:Addr).block from hk),heap_setCell_other _ _ _ _ (show k≠(⟨B,4,none⟩:Addr).block from hk),heap_setCell_other _ _ _ _ (show k≠(⟨B,5,none⟩:Addr).block from hk)]
theorem lks_cells {w:World} {a:Option Addr} {ls:List M.L4} (h:M.LksAt w a ls) (hb:Below w.heap.size w u) (hk:k<ls.length):∃ b off,a=some ⟨b,off,none⟩/\b<w.heap.size/\u.cell? ⟨b,off+k*4,none⟩=some (.bool (ls.getD k M.l4z).has)/\u.cell? ⟨b,off+k*4+1,none⟩=some (.string (ls.getD k M.l4z).nm)/\u.cell? ⟨b,off+k*4+2,none⟩=some (.int .i64 (ls.getD k M.l4z).cd)/\u.cell? ⟨b,off+k*4+3,none⟩=some (.string (ls.getD k M.l4z).tx):=by
 rcases h with h | ⟨b,off,h1,h2,h3⟩
 · rw [h] at hk;exact absurd hk (Nat.not_lt_zero _)
 obtain ⟨x0,x1,x2,x3⟩:=h3 k hk
 exact ⟨b,off,h1,h2,(hb.cell (p:=⟨b,off+k*4,none⟩) h2).trans x0,(hb.cell (p:=⟨b,off+k*4+1,none⟩) h2).trans x1,(hb.cell (p:=⟨b,off+k*4+2,none⟩) h2).trans x2,(hb.cell (p:=⟨b,off+k*4+3,none⟩) h2).trans x3⟩
