import Derived.Test.YtmalddmgdjkgaaaGreatDoorProg
import GoSem.Claim
import GoSem.ClaimJoined
import Derived.JoinedTies
import Derived.KernelRfl
import Derived.RowKit
import Derived.WalkKit
import Derived.WalkSpells
import Derived.WalkLawsBesides
import Derived.Laws.BytesArg
import Derived.Deep.RegionWith
import Derived.Deep.QuietTactic
import Derived.BigQuiet
namespace Go.Proofs.YtmalddmgdjkgaaaGreatDoor
open Go.RowKit
structure I3 where
 op:Int
 tx:ByteArray
 to:Int
def i3z:I3:=⟨0,⟨#[]⟩,0⟩
def I3.v (x:I3):Value:=.agg #[.int .i64 x.op,.string x.tx,.int .i64 x.to]
def InsAt (w:World) (a:Option Addr) (is:List I3):Prop:=
 is=[]∨∃ b off,a=some ⟨b,off,none⟩∧b<w.heap.size∧∀ i,i<is.length→w.cell? ⟨b,off+i*3,none⟩=some (.int .i64 (is.getD i i3z).op)∧w.cell? ⟨b,off+i*3+1,none⟩=some (.string (is.getD i i3z).tx)∧w.cell? ⟨b,off+i*3+2,none⟩=some (.int .i64 (is.getD i i3z).to)
theorem ins_some {w:World} {a:Option Addr} {is:List I3} (h:InsAt w a is):∃ b off,(is=[]∨(a=some ⟨b,off,none⟩∧b<w.heap.size∧∀ i,i<is.length→w.cell? ⟨b,off+i*3,none⟩=some (.int .i64 (is.getD i i3z).op)∧w.cell? ⟨b,off+i*3+1,none⟩=some (.string (is.getD i i3z).tx)∧w.cell? ⟨b,off+i*3+2,none⟩=some (.int .i64 (is.getD i i3z).to))):=by
 rcases h with h | ⟨b,off,h⟩
 · exact ⟨0,0,.inl h⟩
 exact ⟨b,off,.inr h⟩
theorem ins_below {w w':World} {a:Option Addr} {is:List I3} (h:InsAt w a is) (hb:Below w.heap.size w w'):InsAt w' a is:=by
 rcases h with h | ⟨b,off,h1,h2,h3⟩
 · exact .inl h
 exact .inr ⟨b,off,h1,Nat.lt_of_lt_of_le h2 hb.size,fun i hi=>by rw [hb.cell (by exact h2),hb.cell (by exact h2),hb.cell (by exact h2)];exact h3 i hi⟩
theorem getD_small3 {is:List I3} {B:Nat} (h:∀ i,i<is.length→(is.getD i i3z).tx.size≤B) (i:Nat):(is.getD i i3z).tx.size≤B:=by
 rcases Nat.lt_or_ge i is.length with h' | h'
 · exact h i h'
 have e:is.getD i i3z=i3z:=by simp [List.getD,List.getElem?_eq_none h']
 rw [e];exact Nat.zero_le _
theorem adr_ne {B i j:Nat} (h:i≠j):(⟨B,i,none⟩:Addr)≠⟨B,j,none⟩:=by intro e;injection e with _ e;exact h e
theorem set3_at (u:World) (B j:Nat) (v0 v1 v2 x0 x1 x2:Value) (h0:u.cell? ⟨B,j,none⟩=some x0) (h1:u.cell? ⟨B,j+1,none⟩=some x1) (h2:u.cell? ⟨B,j+2,none⟩=some x2):
 (((u.setCell ⟨B,j,none⟩ v0).setCell ⟨B,j+1,none⟩ v1).setCell ⟨B,j+2,none⟩ v2).cell? ⟨B,j,none⟩=some v0∧(((u.setCell ⟨B,j,none⟩ v0).setCell ⟨B,j+1,none⟩ v1).setCell ⟨B,j+2,none⟩ v2).cell? ⟨B,j+1,none⟩=some v1∧(((u.setCell ⟨B,j,none⟩ v0).setCell ⟨B,j+1,none⟩ v1).setCell ⟨B,j+2,none⟩ v2).cell? ⟨B,j+2,none⟩=some v2:=by
 have a1:(u.setCell ⟨B,j,none⟩ v0).cell? ⟨B,j+1,none⟩=some x1:=by rw [World.cell?_setCell_other _ _ _ _ (adr_ne (by omega))];exact h1
 have a2:((u.setCell ⟨B,j,none⟩ v0).setCell ⟨B,j+1,none⟩ v1).cell? ⟨B,j+2,none⟩=some x2:=by
  rw [World.cell?_setCell_other _ _ _ _ (adr_ne (by omega)),World.cell?_setCell_other _ _ _ _ (adr_ne (by omega))];exact h2
 refine ⟨?_,?_,World.cell?_setCell_same _ _ _ a2⟩
 · rw [World.cell?_setCell_other _ _ _ _ (adr_ne (by omega)),World.cell?_setCell_other _ _ _ _ (adr_ne (by omega))];exact World.cell?_setCell_same _ _ _ h0
 rw [World.cell?_setCell_other _ _ _ _ (adr_ne (by omega))];exact World.cell?_setCell_same _ _ _ a1
theorem info149:(Tryz.prog.info? 149).map (fun i=>(i.zero,i.size,i.bytes))=some (some (.agg #[.int .i64 0,.string ⟨#[]⟩,.int .i64 0]),3,32):=by kernel_rfl
end Go.Proofs.YtmalddmgdjkgaaaGreatDoor
namespace Go.Proofs.YtmalddmgdjkgaaaGreatDoor.M
open Go.RowKit
structure M3 where
 nm:ByteArray
 tl:ByteArray
 ar:ByteArray
def m3z:M3:=⟨⟨#[]⟩,⟨#[]⟩,⟨#[]⟩⟩
def M3.v (x:M3):Value:=.agg #[.string x.nm,.string x.tl,.string x.ar]
def M3.le (x:M3) (B:Nat):Prop:=x.nm.size≤B∧x.tl.size≤B∧x.ar.size≤B
theorem adr_ne {B i j:Nat} (h:i≠j):(⟨B,i,none⟩:Addr)≠⟨B,j,none⟩:=by intro e;injection e with _ e;exact h e
end Go.Proofs.YtmalddmgdjkgaaaGreatDoor.M
