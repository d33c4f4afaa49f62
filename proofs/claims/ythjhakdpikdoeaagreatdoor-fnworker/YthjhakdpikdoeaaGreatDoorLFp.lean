import Derived.Test.YthjhakdpikdoeaaGreatDoorKZC
import Derived.Test.YthjhakdpikdoeaaGreatDoorCards
import Derived.Test.YthjhakdpikdoeaaGreatDoorTie
import Derived.ProofKit
import Derived.ShutString
import Derived.ChangeOld
import Derived.Deep.Slices
import Derived.OpenVars
import Derived.HandedShaped
import Derived.Shelf.Vars
import Derived.Deep.DeepHandedRow
import Derived.Deep.DeepWitnessRowRef
import Derived.SevenTiedAt
import Derived.ChangeArms
import Derived.LaidMore
set_option linter.unusedVariables false
set_option maxHeartbeats 8000000
set_option maxRecDepth 100000
namespace Go.Proofs.YthjhakdpikdoeaaGreatDoor.fnWorker
open Proofs.Tryz
open Go.ChangeShapes Go.WideShapes Go.ChangeAt Go.RowKit
variable {W w:World} {H:Type} {fuel g:Nat} {n nm:String} {p:List MemPlace}
theorem own:ownKnob prog.godebug=none:=kr_
theorem laidOut:laidOutB prog=true:=kr_
def cell1:DataW Unit->Value
 | .lit (.int k n)=>.int k n
 | .lit (.bool b)=>.bool b
 | .lit (.string l)=>.string ⟨l.toArray⟩
 | _=>.bool false
def cells1:DataW Unit->List Value
 | .agg es=>es.map cell1
 | d=>[cell1 d]
def cells2:DataW Unit->Array Value
 | .agg ds=>(ds.flatMap cells1).toArray
 | _=>#[]
def withTab (g:Nat) (t:Array Value) (w:World):World:={ w with heap:=w.heap.modify g fun
 | .cells _ ty frozen=>.cells t ty frozen
 | o=>o }
def IsRow (w:World) (a:Option Addr) (len cap:Nat) (zs:List Int):Prop:=(a=none/\len=0/\cap=0/\zs=[])\/∃ x,a=some x/\len<=cap/\cap<=maxLen/\zs.length=cap/\(∀ i,i<zs.length->w.cell? (x.add i)=some (.int .u8 (zs.getD i 0)))/\∀ n∈zs,(Lit.int .u8 n).wf=true
theorem bytes_of_row {a:Option Addr} {len cap:Nat} {zs:List Int} (h:IsRow w a len cap zs):BytesAt w a len/\len<=cap:=by
 rcases h with ⟨rfl,rfl,rfl,rfl⟩ | ⟨x,rfl,hl,hm,hz,hcell,hwz⟩
 · exact ⟨.inl rfl,Nat.le_refl _⟩
 refine ⟨?_,hl⟩;rcases Nat.eq_zero_or_pos len with h0 | h0
 · exact .inl h0
 obtain ⟨b,off,spot⟩:=x;have hc:=hcell 0 om_;have hspot:spot=none:=by simpa [Addr.add] using World.cell?_spot hc
 subst hspot;have hadd:∀ i,(⟨b,off,none⟩:Addr).add i=⟨b,off+i,none⟩:=fun i=>by unfold Addr.add;split <;> simp_all
 refine .inr ⟨b,off,rfl,fun i hi=>⟨zs.getD i 0,?_,by rw [<- hadd i];exact hcell i om_⟩⟩;have hi':i<zs.length:=om_;have e:zs.getD i 0=zs[i]:=by simp [hi']
 rw [e];have:=hwz _ (List.getElem_mem hi');simpa [Lit.wf,IntKind.min,IntKind.max,IntKind.signed,IntKind.bits] using this
theorem max_of_shaped (h:w.ShapedOpen prog):MaxAt w:=by
 obtain ⟨m,hm⟩:=Go.Proofs.cell_of_shapedOpen_int (g:=1) (zero:=#[.int .i64 0]) (t:=3) h (of_decide_eq_true kr_) kr_ rfl kr_ kr_ underlying3;refine ⟨?_,m,hm⟩;rcases Nat.lt_or_ge 1 w.heap.size with h1 | h1
 · exact h1
 simp [World.cell?,Array.getElem?_eq_none h1] at hm
theorem shapes_of_laid (h:laidMetH prog Rows.fnWorkerRow.laid W):ShapesAt W:=by
 have h':laidMet prog Rows.fnWorkerRow.laid W:=h;exact LT.shapes_of_reads (Go.Lib.laidMet.reads h' (by simp [Rows.fnWorkerRow]))
noncomputable def laidWorld (os:Os):World:=withTab 6 (cells2 Rows.laid_math_bits_deBruijn64tab) (withTab 5 (cells2 Rows.laid_math_bits_deBruijn32tab) (withTab 2 (cells2 Rows.laid_internal_strconv_uint64pow10) (withTab 3 (cells2 Rows.laid_unicode_utf8_first) (withTab 4 (cells2 Rows.laid_unicode_utf8_acceptRanges) (withTab 0 (cells2 Rows.laid_loop_example_kiln_impl_shapes) (World.holding prog os ⟨#[],#[],[]⟩))))))
theorem laid_met (os:Os):laidMet prog Rows.fnWorkerRow.laid ((laidWorld os).forCall (fun _ _=>0) ⟨#[],#[.slice none 0 0],[]⟩).memory:=
 laidMet_of_run' 8 kr_ kr_
theorem reads (os:Os) (enc:TypeId×Value->H):∃ ds gs places,DataW.whole enc prog ((laidWorld os).forCall (fun _ _=>0) ⟨#[],#[.slice none 0 0],[]⟩).memory Tryz.f3.params.toList Rows.fnWorkerSpec.vars false (#[.slice none 0 0]:Array Value).toList 8=some (ds,gs,places):=by
 have h:(DataW.whole enc prog ((laidWorld os).forCall (fun _ _=>0) ⟨#[],#[.slice none 0 0],[]⟩).memory Tryz.f3.params.toList Rows.fnWorkerSpec.vars false (#[.slice none 0 0]:Array Value).toList 8).isSome=true:=kr_;obtain ⟨⟨a,b,c⟩,e⟩:=Option.isSome_iff_exists.1 h;exact ⟨a,b,c,e⟩
end Go.Proofs.YthjhakdpikdoeaaGreatDoor.fnWorker
