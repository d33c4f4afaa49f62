import Derived.Test.YtmalddmgdjkgaaaGreatDoorZ38
import Derived.Test.YtmalddmgdjkgaaaGreatDoorZ39
namespace Go.Proofs.YtmalddmgdjkgaaaGreatDoor
open Go.RowKit
def T6At (u:World) (B:Nat) (t:TN):Prop:=u.heap[B]?=some (.cells #[.bool t.over,.int .i64 t.code,.string t.text,.bool t.has,.string t.name,.int .i64 t.steps] 93 (0,0))
theorem T6At.set {u:World} {B:Nat} {t:TN} (h:T6At u B t) (t':TN):T6At ((((((u.setCell ⟨B,0,none⟩ (.bool t'.over)).setCell ⟨B,1,none⟩ (.int .i64 t'.code)).setCell ⟨B,2,none⟩ (.string t'.text)).setCell ⟨B,3,none⟩ (.bool t'.has)).setCell ⟨B,4,none⟩ (.string t'.name)).setCell ⟨B,5,none⟩ (.int .i64 t'.steps)) B t':=by
 have h0:=heap_setCell_same u B 0 _ 93 (.bool t'.over) h
 have h1:=heap_setCell_same _ B 1 _ 93 (.int .i64 t'.code) h0
 have h2:=heap_setCell_same _ B 2 _ 93 (.string t'.text) h1
 have h3:=heap_setCell_same _ B 3 _ 93 (.bool t'.has) h2
 have h4:=heap_setCell_same _ B 4 _ 93 (.string t'.name) h3
 exact heap_setCell_same _ B 5 _ 93 (.int .i64 t'.steps) h4
theorem T6At.cells {u:World} {B:Nat} {t:TN} (h:T6At u B t):u.cell? ⟨B,0,none⟩=some (.bool t.over)∧u.cell? ⟨B,1,none⟩=some (.int .i64 t.code)∧u.cell? ⟨B,2,none⟩=some (.string t.text)∧u.cell? ⟨B,3,none⟩=some (.bool t.has)∧u.cell? ⟨B,4,none⟩=some (.string t.name)∧u.cell? ⟨B,5,none⟩=some (.int .i64 t.steps)∧∀ j,u.frozen? ⟨B,j,none⟩=false:=
 ⟨Lib.cell_of_heap h 0,Lib.cell_of_heap h 1,Lib.cell_of_heap h 2,Lib.cell_of_heap h 3,Lib.cell_of_heap h 4,Lib.cell_of_heap h 5,fun j=>Lib.frozen_of_heap h j⟩
theorem T6At.blk {u:World} {B:Nat} {t:TN} (h:T6At u B t):M.BlkAt u B [.bool t.over,.int .i64 t.code,.string t.text,.bool t.has,.string t.name,.int .i64 t.steps]:=fun j v e=>by
 rw [Lib.cell_of_heap h j]
 simpa using e
theorem T6At.below {u u':World} {B N:Nat} {t:TN} (h:T6At u B t) (hb:Below N u u') (hN:B<N):T6At u' B t:=(hb.block B hN).trans h
theorem wp_turn {ops:Array Oper} {rest:List Oper} {o:Oper} {a:Act} {u:World} {Q:Exit→Act→World→Prop} (hgd:o.guard=none) (x y:Operand) (ho:o.op=.store 93 x y) (B:Nat) (hx:a.eval x=.pointer (some ⟨B,0,none⟩)) (t t0:TN) (hy:a.eval y=t.v) (hT:T6At u B t0) (hdst:o.dst=none)
 (h:∀ u',T6At u' B t→(∀ m,m≤B→Below m u u')→(∀ k,k≠B→u'.heap[k]?=u.heap[k]?)→wpList Tryz.prog ops Q rest a u'):wpList Tryz.prog ops Q (o::rest) a u:=by
 refine M.wpList_store_blk (P:=Tryz.prog) hgd 93 x y ho B 0 hx [.bool t.over,.int .i64 t.code,.string t.text,.bool t.has,.string t.name,.int .i64 t.steps] hy (fun i hi=>?_) (fun j=>Lib.frozen_of_heap hT j) (by intro v hv;simp at hv;rcases hv with rfl | rfl | rfl | rfl | rfl | rfl <;> rfl) (by kernel_rfl) hdst ?_
 · rw [Nat.zero_add,Lib.cell_of_heap hT i]
   have hi':i<6:=hi
   simp [hi']
 refine h _ (hT.set t) (fun m hm=>set6_below hm _ _ _ _ _ _) (fun k hk=>?_)
 show ((((((u.setCell ⟨B,0,none⟩ _).setCell ⟨B,1,none⟩ _).setCell ⟨B,2,none⟩ _).setCell ⟨B,3,none⟩ _).setCell ⟨B,4,none⟩ _).setCell ⟨B,5,none⟩ _).heap[k]?=_
 simp only [heap_setCell_other _ _ _ _ (show k≠(⟨B,0,none⟩:Addr).block from hk),heap_setCell_other _ _ _ _ (show k≠(⟨B,1,none⟩:Addr).block from hk),heap_setCell_other _ _ _ _ (show k≠(⟨B,2,none⟩:Addr).block from hk),heap_setCell_other _ _ _ _ (show k≠(⟨B,3,none⟩:Addr).block from hk),heap_setCell_other _ _ _ _ (show k≠(⟨B,4,none⟩:Addr).block from hk),heap_setCell_other _ _ _ _ (show k≠(⟨B,5,none⟩:Addr).block from hk)]
theorem lks_cells {w u:World} {a:Option Addr} {ls:List M.L4} (h:M.LksAt w a ls) (hb:Below w.heap.size w u) {k:Nat} (hk:k<ls.length):∃ b off,a=some ⟨b,off,none⟩∧b<w.heap.size∧u.cell? ⟨b,off+k*4,none⟩=some (.bool (ls.getD k M.l4z).has)∧u.cell? ⟨b,off+k*4+1,none⟩=some (.string (ls.getD k M.l4z).nm)∧u.cell? ⟨b,off+k*4+2,none⟩=some (.int .i64 (ls.getD k M.l4z).cd)∧u.cell? ⟨b,off+k*4+3,none⟩=some (.string (ls.getD k M.l4z).tx):=by
 rcases h with h | ⟨b,off,h1,h2,h3⟩
 · rw [h] at hk;exact absurd hk (Nat.not_lt_zero _)
 obtain ⟨x0,x1,x2,x3⟩:=h3 k hk
 exact ⟨b,off,h1,h2,(hb.cell (p:=⟨b,off+k*4,none⟩) h2).trans x0,(hb.cell (p:=⟨b,off+k*4+1,none⟩) h2).trans x1,(hb.cell (p:=⟨b,off+k*4+2,none⟩) h2).trans x2,(hb.cell (p:=⟨b,off+k*4+3,none⟩) h2).trans x3⟩
end Go.Proofs.YtmalddmgdjkgaaaGreatDoor
