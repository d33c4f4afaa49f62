import Derived.Test.YtmalddmgdjkgaaaGreatDoorG4
import Derived.Test.YtmalddmgdjkgaaaGreatDoorG5
import Derived.Test.YtmalddmgdjkgaaaGreatDoorG6
import Derived.Test.YtmalddmgdjkgaaaGreatDoorZ37
namespace Go.Proofs.YtmalddmgdjkgaaaGreatDoor
open Go.RowKit
theorem c73 (base b0 b1 b2 b3:Nat) (nm tl ar:ByteArray) (s:RS) (v1 v2:Value) (r:R2) (w:World) (h:RunW base b0 b1 b2 b3 w nm tl ar s v1 v2) (hok:RSOk s) (hrn:s.reps.length≤300) (hts:r.tx.size≤1048576) (har:ar.size≤1048576) (hsh:ShapesAt w) (hmx:MaxAt w) (hba:10≤base):
 Calls Tryz.prog 73 #[.agg #[.int .i64 r.code,.string r.tx],.pointer (some ⟨b0,0,none⟩),.pointer (some ⟨b1,0,none⟩),.pointer (some ⟨b2,0,none⟩),.pointer (some ⟨b3,0,none⟩)] w fun e w'=>e=.returned (nextR tl ar s r).1.v∧(∃ v1' v2',RunW base b0 b1 b2 b3 w' nm tl ar (nextR tl ar s r).2 v1' v2'∧Nw w v1 v1'∧Nw w v2 v2')∧Ex (FP b0 b1 b2 v1) w w':=by
 obtain ⟨hs,T,reps⟩:=s
 cases hs
 · obtain ⟨c,tx⟩:=r
   by_cases h0:c=0
   · subst h0
     have e:nextR tl ar ⟨false,T,reps⟩ ⟨0,tx⟩=(firstR tl ar tx.data.toList,⟨(readT tx.data.toList).2,(readT tx.data.toList).1,reps⟩):=by simp [nextR]
     rw [e]
     refine (c73r base b0 b1 b2 b3 nm tl ar T reps v1 v2 tx w h hts har hsh hmx hba).mono ?_
     rintro e w' ⟨rfl,⟨v,hx,hn⟩,hb⟩
     exact ⟨rfl,⟨v1,v,hx,nw_refl _ _,hn⟩,hb⟩
   by_cases h4:c=4
   · subst h4
     have e:nextR tl ar ⟨false,T,reps⟩ ⟨4,tx⟩=(overT 4 tl 0,⟨false,T,reps⟩):=by simp [nextR]
     rw [e]
     refine (c73m base b0 b1 b2 b3 nm tl ar T reps v1 v2 tx w h).mono ?_
     rintro e w' ⟨rfl,hx,hb⟩
     exact ⟨rfl,⟨v1,v2,hx,nw_refl _ _,nw_refl _ _⟩,.ofB hb⟩
   have e:nextR tl ar ⟨false,T,reps⟩ ⟨c,tx⟩=(overT 5 tl 0,⟨false,T,reps⟩):=by simp [nextR,h0,h4]
   rw [e]
   refine (c73b base b0 b1 b2 b3 nm tl ar T reps v1 v2 c h0 h4 tx w h).mono ?_
   rintro e w' ⟨rfl,hx,hb⟩
   exact ⟨rfl,⟨v1,v2,hx,nw_refl _ _,nw_refl _ _⟩,.ofB hb⟩
 have e:nextR tl ar ⟨true,T,reps⟩ r=(nextT T ar (reps++[r]),⟨true,T,reps++[r]⟩):=by simp [nextR]
 rw [e]
 exact c73h base b0 b1 b2 b3 nm tl ar T reps v1 v2 r w h hrn ⟨by have:=hok.tl;show T.length≤_;exact Nat.le_trans this (by omega),fun i=>Nat.le_trans (hok.ts i) (by omega),har,by simp;have:reps.length≤300:=hrn;omega,snoc_small hok.rs hts⟩ hsh hmx hba
end Go.Proofs.YtmalddmgdjkgaaaGreatDoor
namespace Go.Proofs.YtmalddmgdjkgaaaGreatDoor
open Go.RowKit
def Halt (t:TN) (x:M.L4):Prop:=t.over=true∨x.has≠t.has∨x.nm≠t.name∨¬ M.LkOk x
open Classical in
noncomputable def goL (tl ar:ByteArray):TN→RS→List M.L4→TN
 | t,_,[]=>t
 | t,s,x::xs=>if Halt t x then zeroT else goL tl ar (nextR tl ar s ⟨x.cd,x.tx⟩).1 (nextR tl ar s ⟨x.cd,x.tx⟩).2 xs
open Classical in
theorem goL_halt {tl ar:ByteArray} {t:TN} {s:RS} {x:M.L4} {xs:List M.L4} (h:Halt t x):goL tl ar t s (x::xs)=zeroT:=by
 show (if _ then _ else _)=_
 exact if_pos h
open Classical in
theorem goL_go {tl ar:ByteArray} {t:TN} {s:RS} {x:M.L4} {xs:List M.L4} (h:¬ Halt t x):goL tl ar t s (x::xs)=goL tl ar (nextR tl ar s ⟨x.cd,x.tx⟩).1 (nextR tl ar s ⟨x.cd,x.tx⟩).2 xs:=by
 show (if _ then _ else _)=_
 exact if_neg h
def turn0 (tl:ByteArray):TN:=⟨false,0,⟨#[]⟩,false,tl,0⟩
open Classical in
noncomputable def goT (m:M.M3) (ls:List M.L4):TN:=if M.okM m=true∧ls.length≤15 then goL m.tl m.ar (turn0 m.tl) rs0 ls else zeroT
theorem goT_no {m:M.M3} {ls:List M.L4} (h:M.okM m=false∨15<ls.length):goT m ls=zeroT:=by
 unfold goT
 refine if_neg fun h'=>?_
 rcases h with h | h
 · rw [h'.1] at h;cases h
 omega
theorem goT_yes {m:M.M3} {ls:List M.L4} (h:M.okM m=true) (h2:ls.length≤15):goT m ls=goL m.tl m.ar (turn0 m.tl) rs0 ls:=if_pos ⟨h,h2⟩
theorem drop_get {ls:List M.L4} {k:Nat} (h:k<ls.length):ls.drop k=ls.getD k M.l4z::ls.drop (k+1):=by
 rw [List.drop_eq_getElem_cons h]
 congr 1
 simp [List.getD,h]
def WG (m:M.M3) (w:World):World:=(w.alloc (.cells #[.string m.nm,.string m.tl,.string m.ar] 41)).alloc (.cells #[.bool false,.int .i64 0,.string ⟨#[]⟩,.bool false,.string ⟨#[]⟩,.int .i64 0] 93)
theorem WG_size (m:M.M3) (w:World):(WG m w).heap.size=w.heap.size+2:=by simp [WG]
theorem WG_below (m:M.M3) (w:World):Below w.heap.size w (WG m w):=((Below.refl _ _).alloc (Nat.le_refl _) _).alloc (by simp) _
theorem WG_z {m:M.M3} {w u:World} (h:Below (w.heap.size+2) (WG m w) u):u.heap[w.heap.size+1]?=some (.cells z6 93 (0,0)):=by
 rw [h.block _ (by omega)]
 exact alloc_new (by simp) _
theorem WG_m {m:M.M3} {w u:World} (h:Below (w.heap.size+2) (WG m w) u):u.cell? ⟨w.heap.size,0,none⟩=some (.string m.nm)∧u.cell? ⟨w.heap.size,1,none⟩=some (.string m.tl)∧u.cell? ⟨w.heap.size,2,none⟩=some (.string m.ar):=by
 have e:u.heap[w.heap.size]?=some (.cells #[.string m.nm,.string m.tl,.string m.ar] 41 (0,0)):=by
  rw [h.block _ (by omega),WG,Lib.alloc_old _ _ _ (by simp)]
  exact alloc_new rfl _
 exact ⟨Lib.cell_of_heap e 0,Lib.cell_of_heap e 1,Lib.cell_of_heap e 2⟩
end Go.Proofs.YtmalddmgdjkgaaaGreatDoor
