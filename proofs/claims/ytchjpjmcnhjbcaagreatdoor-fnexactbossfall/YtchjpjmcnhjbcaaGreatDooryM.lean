import Derived.Test.YtchjpjmcnhjbcaaGreatDoorvN
import Derived.ProofKit
import Derived.OpenShut
import Derived.ShutString
import Derived.ChangeOld
import Derived.SliceStrings
import Derived.Deep.Strs
import Derived.Deep.Slices
import Derived.OpenVars
import Derived.HandedShaped
import Derived.Shelf.Vars
import Derived.Deep.DeepHandedRow
import Derived.Deep.DeepWitnessRowRef
import Derived.SevenTiedAt
import Derived.ChangeArms
import Derived.LaidMore
import Derived.LaidOnce
import Derived.LaidHandle
import Derived.Test.YtchjpjmcnhjbcaaGreatDoorS1
import Derived.Lib.AppendZeros
set_option linter.unusedVariables false
set_option maxHeartbeats 8000000
set_option maxRecDepth 100000
namespace Go.Proofs.YtchjpjmcnhjbcaaGreatDoor
open Proofs.Tryz Go.ChangeShapes Go.WideShapes Go.ChangeAt Go.RowKit
variable {H α:Type} {enc:TypeId×Value->H} {W:World} {fuel:Nat} {cs:List Value} {y:DataW H×List MemPlace}
theorem cells9:prog.cellsOf 9=1:=Y2
theorem cells4:prog.cellsOf 4=1:=Y2
theorem cells3:prog.cellsOf 3=1:=Y2
theorem cells22:prog.cellsOf 22=1:=Y2
theorem cells25:prog.cellsOf 25=1:=Y2
theorem cells24:prog.cellsOf 24=2:=Y2
theorem cells27:prog.cellsOf 27=1:=Y2
theorem cells28:prog.cellsOf 28=1:=Y2
theorem cells30:prog.cellsOf 30=3:=Y2
theorem cells31:prog.cellsOf 31=1:=Y2
theorem cells32:prog.cellsOf 32=1:=Y2
theorem cells33:prog.cellsOf 33=1:=Y2
theorem cells35:prog.cellsOf 35=15:=Y2
theorem TU:prog.cellsOf 84=1:=Y2
theorem cells86:prog.cellsOf 86=2:=Y2
theorem MK:prog.cellsOf 88=6:=Y2
theorem EK:prog.cellsOf 91=3:=Y2
theorem QF:prog.cellsOf 126=2:=Y2
theorem IQ:prog.cellsOf 128=1:=Y2
theorem SG:prog.cellsOf 130=3:=Y2
theorem JF:prog.cellsOf 189=4:=Y2
theorem BF:prog.cellsOf 263=3:=Y2
theorem NY {l:List α} (h:l.length=1):∃ a,l=[a]:=by
 match l,h with
 | [a],_=>exact ⟨_,rfl⟩
theorem YH {l:List α} (h:l.length=2):∃ b a,l=[b,a]:=by
 match l,h with
 | [b,a],_=>exact ⟨_,_,rfl⟩
theorem PE {l:List α} (h:l.length=3):∃ b a a2,l=[b,a,a2]:=by
 match l,h with
 | [b,a,a2],_=>exact ⟨_,_,_,rfl⟩
theorem vZ {l:List α} (h:l.length=4):∃ c b a2 a,l=[c,b,a2,a]:=by
 match l,h with
 | [c,b,a2,a],_=>exact ⟨_,_,_,_,rfl⟩
theorem dZ {l:List α} (h:l.length=6):∃ e d a2 c b a,l=[e,d,a2,c,b,a]:=by
 match l,h with
 | [e,d,a2,c,b,a],_=>exact ⟨_,_,_,_,_,_,rfl⟩
theorem QW {l:List α} (h:l.length=15):∃ p o a2 g f e d c b a n m k j i,l=[p,o,a2,g,f,e,d,c,b,a,n,m,k,j,i]:=by
 match l,h with
 | [p,o,a2,g,f,e,d,c,b,a,n,m,k,j,i],_=>exact ⟨_,_,_,_,_,_,_,_,_,_,_,_,_,_,_,rfl⟩
theorem Kt (b off i:Nat):(⟨b,off,none⟩:Addr).add i=⟨b,off+i,none⟩:=by unfold Addr.add;split<;>simp_all
theorem own:ownKnob prog.godebug=none:=Y2
theorem laidOut:laidOutB prog=true:=Y2
theorem EU (d:α) {sl k:TypeId} {n:Nat} (t:prog.underlying sl=some (.slice k)) (hc:prog.cellsOf k=n) (B:0<n) (Q:List Value->α->Prop)
 (hQ:∀ fuel cs y,DataW.trod enc prog W 0 (fun _=>true) true fuel k cs=some y->∃ x,Q cs x) (hf:DataW.trod enc prog W 0 (fun _=>true) true fuel sl cs=some y):
 ∃ (a:OA) (r:Nat) (is:List α),cs=[.slice a is.length r]/\is.length<=maxLen/\Jz W a is d n (fun w b o x=>∃ c,Q c x/\Bc w b o c):=by
 rcases Go.Deep.open_slice t hf with ⟨rfl,_⟩ | ⟨a,len,r,m,n',D,Pl,rfl,_,hl,hm,l,_,hx⟩
 · exact ⟨none,0,[],rfl,J4 _,.inl rfl⟩
 simp only [if_true] at l;subst l;have E:∀ i,i<m->∃ x:α,∃ c,W.cells? 0 (a.add (i*n)) n=some c/\Q c x:=fun i g=>by
  obtain ⟨c,h1,h2⟩:=hx i g;obtain ⟨x,z⟩:=hQ _ _ _ h2;rw [hc] at h1;exact ⟨x,c,h1,z⟩
 obtain ⟨V,hV⟩:=@Go.Deep.choose_lt α ⟨d⟩ m (fun i x=>∃ c,W.cells? 0 (a.add (i*n)) n=some c/\Q c x) E;have j:((List.range len).map V).length=len:=X4;have C:∀ i,i<len->((List.range len).map V).getD i d=V i:=fun i g=>by simp [List.getD,g]
 refine ⟨some a,m,(List.range len).map V,by rw [j],by rw [j];omega,?_⟩;rcases su len with h0 | h0
 · exact .inl (by rw [h0];rfl)
 obtain ⟨b,off,s⟩:=a;obtain ⟨cs0,f,_⟩:=hV 0 O0;obtain ⟨_,F,f⟩:=World.cells?_some f;have f:=f 0 B;rw [Z8 O0] at f;have u:s=none:=by simpa [Addr.add] using World.cell?_spot f
 subst u;refine .inr ⟨b,off,rfl,?_,fun i g=>?_⟩
 · rw [Kt,Kt] at f;rcases Q7 b W.heap.size with h | h
   · exact h
   · simp [World.cell?,Xp h] at f
 rw [j] at g;rw [C i g];obtain ⟨c,h1,h2⟩:=hV i O0;refine ⟨c,h2,fun q v e=>?_⟩;obtain ⟨_,F,I⟩:=World.cells?_some h1;have A:q<n:=by have:=(Tm.1 e).1;omega
 have p:=I q A;rw [Kt,Kt] at p;exact p.trans e
theorem Ae {t:TypeId} {fs:Array Field} (ht:prog.underlying t=some (.struct fs)) (h:DataW.trod enc prog W 0 (fun _=>true) true fuel t cs=some y):
 ∃ n,cs.length=prog.cellsOf t/\∀ (i:Nat) (f:Field),fs[i]?=some f->∃ z,DataW.trod enc prog W 0 (fun _=>true) true n f.type ((cs.drop f.offset).take (prog.cellsOf f.type))=some z:=by
 obtain ⟨xs,n,_,rfl,hl,a,hf⟩:=DataW.trod_struct ht h;refine ⟨n,hl,fun i f e=>?_⟩;have b:i<xs.length:=by rw [a];exact (r_.1 e).1
 exact ⟨xs[i],(hf i f e).trans (Z8 b)⟩
abbrev Tr {H:Type} (enc:TypeId×Value->H) (W:World) (n:Nat) (t:TypeId) (cs:List Value) (y:DataW H×List MemPlace):Prop:=DataW.trod enc prog W 0 (fun _=>true) true n t cs=some y
section
variable {H:Type} {enc:TypeId×Value->H} {W:World} {fuel:Nat} {cs:List Value} {y:DataW H×List MemPlace}
theorem Lj {α:Type} (d:α) {sl g:TypeId} {n:Nat} (l:prog.underlying sl=some (.slice g)) (hc:prog.cellsOf g=n) (m:0<n) (Q:List Value->α->Prop) (R:α->Prop) (hR:R d)
 (hQ:∀ fuel cs y,DataW.trod enc prog W 0 (fun _=>true) true fuel g cs=some y->∃ x,Q cs x/\R x) (hf:Tr enc W fuel sl cs y):
 ∃ (a:OA) (j:Nat) (is:List α),cs=[.slice a is.length j]/\is.length<=maxLen/\(∀ i,R (is.getD i d))/\Jz W a is d n (fun w b o x=>∃ k,Q k x/\Bc w b o k):=by
 obtain ⟨a,j,is,e,hl,h⟩:=EU d l hc m (fun cs x=>Q cs x/\R x) hQ hf;refine ⟨a,j,is,e,hl,fun i=>?_,?_⟩
 · by_cases f:i<is.length
   · rcases h with h | ⟨b,off,_,_,h⟩
     · subst h;exact hR
     obtain ⟨_,h,_⟩:=h i f;exact h.2
   · rw [List.getD,Yb O0];exact hR
 rcases h with h | ⟨b,off,h1,h2,h⟩
 · exact .inl h
 exact .inr ⟨b,off,h1,h2,fun i f=>by obtain ⟨c,h,p⟩:=h i f;exact ⟨c,h.1,p⟩⟩
theorem ZL (h:Tr enc W fuel 9 cs y):∃ x:BY,cs=[.string x]/\x.size<=maxLen:=by
 obtain ⟨s,e,_,a⟩:=Qm underlying9 h;exact ⟨s,e,a⟩
theorem SL (h:Tr enc W fuel 3 cs y):∃ x:Int,cs=[.int .i64 x]/\x=x:=by
 obtain ⟨s,e,_⟩:=Wp underlying3 h;exact ⟨s,e,rfl⟩
theorem qR (h:Tr enc W fuel 126 cs y):∃ x:T.F2,cs=fiE x/\x.le maxLen:=by
 obtain ⟨n,hl,hf⟩:=Ae underlying126 h;rw [QF] at hl;obtain ⟨i,a,rfl⟩:=YH hl;obtain ⟨c,h0⟩:=hf 0 _ rfl
 replace h0:Tr enc W n 9 (List.take (prog.cellsOf 9) [i,a]) c:=h0
 rw [cells9] at h0;obtain ⟨b,h1⟩:=hf 1 _ rfl
 replace h1:Tr enc W n 9 (List.take (prog.cellsOf 9) [a]) b:=h1
 rw [cells9] at h1;obtain ⟨e,e0,_,g⟩:=Qm underlying9 h0;simp at e0;obtain ⟨d,e1,_,f⟩:=Qm underlying9 h1;simp at e1;exact ⟨⟨e,d⟩,by rw [e0,e1];rfl,g,f⟩
theorem VS (h:Tr enc W fuel 91 cs y):∃ x:Jb,cs=VT x/\x.nm.size<=maxLen:=by
 obtain ⟨n,hl,hf⟩:=Ae underlying91 h;rw [EK] at hl;obtain ⟨k,b,c2,rfl⟩:=PE hl;obtain ⟨e,h0⟩:=hf 0 _ rfl
 replace h0:Tr enc W n 9 (List.take (prog.cellsOf 9) [k,b,c2]) e:=h0
 rw [cells9] at h0;obtain ⟨d,h1⟩:=hf 1 _ rfl
 replace h1:Tr enc W n 3 (List.take (prog.cellsOf 3) [b,c2]) d:=h1
 rw [cells3] at h1;obtain ⟨c,h2⟩:=hf 2 _ rfl
 replace h2:Tr enc W n 3 (List.take (prog.cellsOf 3) [c2]) c:=h2
 rw [cells3] at h2;obtain ⟨i,e0,_,j⟩:=Qm underlying9 h0;simp at e0;obtain ⟨g,e1,_,_⟩:=Wp underlying3 h1;simp at e1;obtain ⟨f,a,_,_⟩:=Wp underlying3 h2;simp at a;exact ⟨⟨i,g,f⟩,by rw [e0,e1,a];rfl,j⟩
theorem fO (h:Tr enc W fuel 263 cs y):∃ x:G3,cs=JY x/\x.le maxLen:=by
 obtain ⟨n,hl,hf⟩:=Ae underlying263 h;rw [BF] at hl;obtain ⟨l,b,c2,rfl⟩:=PE hl;obtain ⟨e,h0⟩:=hf 0 _ rfl
 replace h0:Tr enc W n 4 (List.take (prog.cellsOf 4) [l,b,c2]) e:=h0
 rw [cells4] at h0;obtain ⟨d,h1⟩:=hf 1 _ rfl
 replace h1:Tr enc W n 9 (List.take (prog.cellsOf 9) [b,c2]) d:=h1
 rw [cells9] at h1;obtain ⟨c,h2⟩:=hf 2 _ rfl
 replace h2:Tr enc W n 9 (List.take (prog.cellsOf 9) [c2]) c:=h2
 rw [cells9] at h2;obtain ⟨i,e0,_⟩:=fJ underlying4 h0;simp at e0;obtain ⟨g,e1,_,k⟩:=Qm underlying9 h1;simp at e1;obtain ⟨f,a,_,j⟩:=Qm underlying9 h2;simp at a;exact ⟨⟨i,g,f⟩,by rw [e0,e1,a];rfl,k,j⟩
theorem Vz (h:Tr enc W fuel 86 cs y):∃ (c:Int) (t:BY),cs=[.int .i64 c,.string t]/\t.size<=maxLen:=by
 obtain ⟨n,hl,hf⟩:=Ae underlying86 h;rw [cells86] at hl;obtain ⟨i,a,rfl⟩:=YH hl;obtain ⟨d,h0⟩:=hf 0 _ rfl
 replace h0:Tr enc W n 3 (List.take (prog.cellsOf 3) [i,a]) d:=h0
 rw [cells3] at h0;obtain ⟨b,h1⟩:=hf 1 _ rfl
 replace h1:Tr enc W n 9 (List.take (prog.cellsOf 9) [a]) b:=h1
 rw [cells9] at h1;obtain ⟨f,e0,_,_⟩:=Wp underlying3 h0;simp at e0;obtain ⟨e,e1,_,g⟩:=Qm underlying9 h1;simp at e1;exact ⟨f,e,by rw [e0,e1],g⟩
theorem KI (h:Tr enc W fuel 189 cs y):∃ x:L4,cs=aZ x/\x.le maxLen:=by
 obtain ⟨n,hl,hf⟩:=Ae underlying189 h;rw [JF] at hl;obtain ⟨k,b,c2,c3,rfl⟩:=vZ hl;obtain ⟨f,h0⟩:=hf 0 _ rfl
 replace h0:Tr enc W n 4 (List.take (prog.cellsOf 4) [k,b,c2,c3]) f:=h0
 rw [cells4] at h0;obtain ⟨e,h1⟩:=hf 1 _ rfl
 replace h1:Tr enc W n 9 (List.take (prog.cellsOf 9) [b,c2,c3]) e:=h1
 rw [cells9] at h1;obtain ⟨d,h2⟩:=hf 2 _ rfl
 replace h2:Tr enc W n 86 (List.take (prog.cellsOf 86) [c2,c3]) d:=h2
 rw [cells86] at h2;obtain ⟨i,e0,_⟩:=fJ underlying4 h0;simp at e0;obtain ⟨g,e1,_,j⟩:=Qm underlying9 h1;simp at e1;obtain ⟨c,t,a,ht⟩:=Vz h2;simp at a;exact ⟨⟨i,g,c,t⟩,by rw [e0,e1,a.1,a.2];rfl,j,ht⟩
theorem Rw (h:Tr enc W fuel 22 cs y):∃ a c is,cs=[.slice a is.length c]/\is.length<=maxLen/\(∀ i,(is.getD i ByteArray.empty).size<=maxLen)/\P7 W a is:=by
 obtain ⟨a,c,is,e,hl,hr,h⟩:=Lj ByteArray.empty (α:=ByteArray) underlying22 cells9 o6 (fun cs x=>cs=[.string x]) (fun x=>x.size<=maxLen) (J4 _) (fun _ _ _ h=>ZL h) h;refine ⟨a,c,is,e,hl,hr,?_⟩;rcases h with h | ⟨b,off,h1,h2,f⟩
 · exact .inl h
 refine .inr ⟨b,off,h1,h2,fun i d=>?_⟩;obtain ⟨_,rfl,h⟩:=f i d;simpa using h 0 _ rfl
theorem oU (h:Tr enc W fuel 31 cs y):∃ a c is,cs=[.slice a is.length c]/\is.length<=maxLen/\(∀ i,(is.getD i (0:Int))=(is.getD i (0:Int)))/\Ye W a is:=by
 obtain ⟨a,c,is,e,hl,hr,h⟩:=Lj (0:Int) (α:=Int) underlying31 cells3 o6 (fun cs x=>cs=[.int .i64 x]) (fun x=>x=x) (rfl) (fun _ _ _ h=>SL h) h;refine ⟨a,c,is,e,hl,hr,?_⟩;rcases h with h | ⟨b,off,h1,h2,f⟩
 · exact .inl h
 refine .inr ⟨b,off,h1,h2,fun i d=>?_⟩;obtain ⟨_,rfl,h⟩:=f i d;simpa using h 0 _ rfl
theorem nX (h:Tr enc W fuel 25 cs y):∃ a c is,cs=[.slice a is.length c]/\is.length<=maxLen/\(∀ i,(is.getD i T.I8).le maxLen)/\T.G6 W a is:=by
 obtain ⟨a,c,is,e,hl,hr,h⟩:=Lj T.I8 (α:=T.F2) underlying25 QF o6 (fun cs x=>cs=fiE x) (fun x=>x.le maxLen) (⟨J4 _,J4 _⟩) (fun _ _ _ h=>qR h) h;refine ⟨a,c,is,e,hl,hr,?_⟩;rcases h with h | ⟨b,off,h1,h2,f⟩
 · exact .inl h
 refine .inr ⟨b,off,h1,h2,fun i d=>?_⟩;obtain ⟨_,rfl,h⟩:=f i d;exact ⟨h 0 _ rfl,h 1 _ rfl⟩
theorem jV (h:Tr enc W fuel 33 cs y):∃ a c is,cs=[.slice a is.length c]/\is.length<=maxLen/\(∀ i,(is.getD i Jc).nm.size<=maxLen)/\Bl W a is:=by
 obtain ⟨a,c,is,e,hl,hr,h⟩:=Lj Jc (α:=Jb) underlying33 EK o6 (fun cs x=>cs=VT x) (fun x=>x.nm.size<=maxLen) (J4 _) (fun _ _ _ h=>VS h) h;refine ⟨a,c,is,e,hl,hr,?_⟩;rcases h with h | ⟨b,off,h1,h2,f⟩
 · exact .inl h
 refine .inr ⟨b,off,h1,h2,fun i d=>?_⟩;obtain ⟨_,rfl,h⟩:=f i d;exact h
theorem ZU (h:Tr enc W fuel 128 cs y):∃ a c is,cs=[.slice a is.length c]/\is.length<=maxLen/\(∀ i,(is.getD i Vg).le maxLen)/\R_ W a is:=by
 obtain ⟨a,c,is,e,hl,hr,h⟩:=Lj Vg (α:=G3) underlying128 BF o6 (fun cs x=>cs=JY x) (fun x=>x.le maxLen) (⟨J4 _,J4 _⟩) (fun _ _ _ h=>fO h) h;refine ⟨a,c,is,e,hl,hr,?_⟩;rcases h with h | ⟨b,off,h1,h2,f⟩
 · exact .inl h
 refine .inr ⟨b,off,h1,h2,fun i d=>?_⟩;obtain ⟨_,rfl,h⟩:=f i d;exact ⟨h 0 _ rfl,h 1 _ rfl,h 2 _ rfl⟩
theorem GV (h:Tr enc W fuel 84 cs y):∃ a c is,cs=[.slice a is.length c]/\is.length<=maxLen/\(∀ i,(is.getD i E_).le maxLen)/\o9 W a is:=by
 obtain ⟨a,c,is,e,hl,hr,h⟩:=Lj E_ (α:=L4) underlying84 JF o6 (fun cs x=>cs=aZ x) (fun x=>x.le maxLen) (⟨J4 _,J4 _⟩) (fun _ _ _ h=>KI h) h;refine ⟨a,c,is,e,hl,hr,?_⟩;rcases h with h | ⟨b,off,h1,h2,f⟩
 · exact .inl h
 refine .inr ⟨b,off,h1,h2,fun i d=>?_⟩;obtain ⟨_,rfl,h⟩:=f i d;exact ⟨h 0 _ rfl,h 1 _ rfl,h 2 _ rfl,h 3 _ rfl⟩
theorem IL (h:Tr enc W fuel 130 cs y):∃ x:R3,(∃ c q,cs=rY (x,.slice c x.gs.length q)/\R_ W c x.gs)/\x.le maxLen:=by
 obtain ⟨n,hl,hf⟩:=Ae underlying130 h;rw [SG] at hl;obtain ⟨r,b,c2,rfl⟩:=PE hl;obtain ⟨f,h0⟩:=hf 0 _ rfl
 replace h0:Tr enc W n 9 (List.take (prog.cellsOf 9) [r,b,c2]) f:=h0
 rw [cells9] at h0;obtain ⟨e,h1⟩:=hf 1 _ rfl
 replace h1:Tr enc W n 128 (List.take (prog.cellsOf 128) [b,c2]) e:=h1
 rw [IQ] at h1;obtain ⟨d,h2⟩:=hf 2 _ rfl
 replace h2:Tr enc W n 9 (List.take (prog.cellsOf 9) [c2]) d:=h2
 rw [cells9] at h2;obtain ⟨i,e0,_,m⟩:=Qm underlying9 h0;simp at e0;obtain ⟨s,j,gs,e1,o,l,p⟩:=ZU h1;simp at e1;obtain ⟨g,a,_,k⟩:=Qm underlying9 h2;simp at a;exact ⟨⟨i,gs,g⟩,⟨s,j,by rw [e0,e1,a];rfl,p⟩,m,o,l,k⟩
theorem OQ (h:Tr enc W fuel 88 cs y):∃ x:Rn,(∃ i B,cs=Nz (x,.slice i x.ls.length B)/\o9 W i x.ls)/\x.le maxLen:=by
 obtain ⟨n,hl,hf⟩:=Ae underlying88 h;rw [MK] at hl;obtain ⟨C,g,c2,c3,c4,c18,rfl⟩:=dZ hl;obtain ⟨o,h0⟩:=hf 0 _ rfl
 replace h0:Tr enc W n 9 (List.take (prog.cellsOf 9) [C,g,c2,c3,c4,c18]) o:=h0
 rw [cells9] at h0;obtain ⟨m,h1⟩:=hf 1 _ rfl
 replace h1:Tr enc W n 3 (List.take (prog.cellsOf 3) [g,c2,c3,c4,c18]) m:=h1
 rw [cells3] at h1;obtain ⟨l,h2⟩:=hf 2 _ rfl
 replace h2:Tr enc W n 9 (List.take (prog.cellsOf 9) [c2,c3,c4,c18]) l:=h2
 rw [cells9] at h2;obtain ⟨k,b⟩:=hf 3 _ rfl
 replace b:Tr enc W n 84 (List.take (prog.cellsOf 84) [c3,c4,c18]) k:=b
 rw [TU] at b;obtain ⟨j,a⟩:=hf 4 _ rfl
 replace a:Tr enc W n 86 (List.take (prog.cellsOf 86) [c4,c18]) j:=a
 rw [cells86] at a;obtain ⟨r,e0,_,w⟩:=Qm underlying9 h0;simp at e0;obtain ⟨q,e1,_,_⟩:=Wp underlying3 h1;simp at e1;obtain ⟨p,f,_,v⟩:=Qm underlying9 h2;simp at f;obtain ⟨D,s,ls,e,z,u,A⟩:=GV b;simp at e;obtain ⟨c,t,d,ht⟩:=Vz a;simp at d;exact ⟨⟨r,q,p,ls,c,t⟩,⟨D,s,by rw [e0,e1,f,e,d.1,d.2];rfl,A⟩,w,v,⟨z,u⟩,ht⟩
theorem openedR (h:Tr enc W fuel 28 cs y):∃ a f is,cs=[.slice a is.length f]/\is.length<=maxLen/\(∀ i,(is.getD i f_).le maxLen)/\ug W a is:=by
 obtain ⟨a,f,is,e,hl,hr,h⟩:=Lj f_ (α:=R3) underlying28 SG o6 (fun cs x=>∃ c d,cs=rY (x,.slice c x.gs.length d)/\R_ W c x.gs) (fun x=>x.le maxLen) (⟨J4 _,J4 _,fun _=>⟨J4 _,J4 _⟩,J4 _⟩) (fun _ _ _ h=>IL h) h;refine ⟨a,f,is,e,hl,hr,?_⟩;rcases h with h | ⟨b,off,h1,h2,k⟩
 · exact .inl h
 refine .inr ⟨b,off,h1,h2,fun i g=>?_⟩;obtain ⟨_,⟨c,d,rfl,j⟩,h⟩:=k i g;exact ⟨c,d,h 0 _ rfl,h 1 _ rfl,h 2 _ rfl,j⟩
theorem EW (h:Tr enc W fuel 32 cs y):∃ a f is,cs=[.slice a is.length f]/\is.length<=maxLen/\(∀ i,(is.getD i X_).le maxLen)/\Aj W a is:=by
 obtain ⟨a,f,is,e,hl,hr,h⟩:=Lj X_ (α:=Rn) underlying32 MK o6 (fun cs x=>∃ c d,cs=Nz (x,.slice c x.ls.length d)/\o9 W c x.ls) (fun x=>x.le maxLen) (⟨J4 _,J4 _,⟨J4 _,fun _=>⟨J4 _,J4 _⟩⟩,J4 _⟩) (fun _ _ _ h=>OQ h) h;refine ⟨a,f,is,e,hl,hr,?_⟩;rcases h with h | ⟨b,off,h1,h2,k⟩
 · exact .inl h
 refine .inr ⟨b,off,h1,h2,fun i g=>?_⟩;obtain ⟨_,⟨c,d,rfl,j⟩,h⟩:=k i g;exact ⟨c,d,h,j⟩
theorem lN (h:Tr enc W fuel 24 cs y):∃ d f b c e a,cs=[.slice d b.length f,.slice c a.length e]/\((b.length<=maxLen/\∀ i,(b.getD i ByteArray.empty).size<=maxLen)/\P7 W d b)/\(a.length<=maxLen/\∀ i,(a.getD i ByteArray.empty).size<=maxLen)/\P7 W c a:=by
 obtain ⟨n,hl,hf⟩:=Ae underlying24 h;rw [cells24] at hl;obtain ⟨s,g,rfl⟩:=YH hl;obtain ⟨k,h0⟩:=hf 0 _ rfl
 replace h0:Tr enc W n 22 (List.take (prog.cellsOf 22) [s,g]) k:=h0
 rw [cells22] at h0;obtain ⟨j,h1⟩:=hf 1 _ rfl
 replace h1:Tr enc W n 22 (List.take (prog.cellsOf 22) [g]) j:=h1
 rw [cells22] at h1;obtain ⟨d,f,b,e0,r,p,m⟩:=Rw h0;obtain ⟨c,e,a,e1,q,o,l⟩:=Rw h1;simp at e0 e1;exact ⟨d,f,b,c,e,a,by rw [e0,e1],⟨⟨r,p⟩,m⟩,⟨q,o⟩,l⟩
theorem lJ (h:Tr enc W fuel 27 cs y):∃ a k is,cs=[.slice a is.length k]/\is.length<=maxLen/\(∀ i,(is.getD i T.I8).le maxLen)/\T.G6 W a is:=by
 obtain ⟨n,hl,hf⟩:=Ae underlying27 h;rw [cells27] at hl;obtain ⟨c,rfl⟩:=NY hl;obtain ⟨b,h0⟩:=hf 0 _ rfl
 replace h0:Tr enc W n 25 (List.take (prog.cellsOf 25) [c]) b:=h0
 rw [cells25] at h0;exact nX h0
theorem NF (h:Tr enc W fuel 30 cs y):∃ (s:St) (e a:OA) (v b:Nat),cs=[.int .i64 s.wd,.slice e s.ts.length v,.slice a s.rs.length b]/\s.le maxLen/\Ig W e a s:=by
 obtain ⟨n,hl,hf⟩:=Ae underlying30 h;rw [cells30] at hl;obtain ⟨w,d,c2,rfl⟩:=PE hl;obtain ⟨i,h0⟩:=hf 0 _ rfl
 replace h0:Tr enc W n 3 (List.take (prog.cellsOf 3) [w,d,c2]) i:=h0
 rw [cells3] at h0;obtain ⟨g,h1⟩:=hf 1 _ rfl
 replace h1:Tr enc W n 22 (List.take (prog.cellsOf 22) [d,c2]) g:=h1
 rw [cells22] at h1;obtain ⟨f,h2⟩:=hf 2 _ rfl
 replace h2:Tr enc W n 28 (List.take (prog.cellsOf 28) [c2]) f:=h2
 rw [cells28] at h2;obtain ⟨j,e0,_,_⟩:=Wp underlying3 h0;simp at e0;obtain ⟨a,b,t,e1,q,o,l⟩:=Rw h1;obtain ⟨a2,u,r,c,p,m,k⟩:=openedR h2;simp at e1 c;exact ⟨⟨j,t,r⟩,a,a2,b,u,by rw [e0,e1,c],⟨⟨q,o⟩,p,m⟩,l,k⟩
theorem oO (h:Tr enc W fuel 35 cs y):∃ b q,cs=bsV b q/\Gj b maxLen/\Oh W b q:=by
 obtain ⟨n,hl,hf⟩:=Ae underlying35 h;rw [cells35] at hl;obtain ⟨c0,A,c2,c3,c4,c18,c6,XU,c8,c11,c12,c13,c14,c15,c16,rfl⟩:=QW hl;obtain ⟨O,h0⟩:=hf 0 _ rfl
 replace h0:Tr enc W n 3 (List.take (prog.cellsOf 3) [c0,A,c2,c3,c4,c18,c6,XU,c8,c11,c12,c13,c14,c15,c16]) O:=h0
 rw [cells3] at h0;obtain ⟨N,h1⟩:=hf 1 _ rfl
 replace h1:Tr enc W n 4 (List.take (prog.cellsOf 4) [A,c2,c3,c4,c18,c6,XU,c8,c11,c12,c13,c14,c15,c16]) N:=h1
 rw [cells4] at h1;obtain ⟨J,h2⟩:=hf 2 _ rfl
 replace h2:Tr enc W n 3 (List.take (prog.cellsOf 3) [c2,c3,c4,c18,c6,XU,c8,c11,c12,c13,c14,c15,c16]) J:=h2
 rw [cells3] at h2;obtain ⟨I,i⟩:=hf 3 _ rfl
 replace i:Tr enc W n 3 (List.take (prog.cellsOf 3) [c3,c4,c18,c6,XU,c8,c11,c12,c13,c14,c15,c16]) I:=i
 rw [cells3] at i;obtain ⟨H,g⟩:=hf 4 _ rfl
 replace g:Tr enc W n 3 (List.take (prog.cellsOf 3) [c4,c18,c6,XU,c8,c11,c12,c13,c14,c15,c16]) H:=g
 rw [cells3] at g;obtain ⟨F,f⟩:=hf 5 _ rfl
 replace f:Tr enc W n 24 (List.take (prog.cellsOf 24) [c18,c6,XU,c8,c11,c12,c13,c14,c15,c16]) F:=f
 rw [cells24] at f;obtain ⟨E,e⟩:=hf 6 _ rfl
 replace e:Tr enc W n 27 (List.take (prog.cellsOf 27) [XU,c8,c11,c12,c13,c14,c15,c16]) E:=e
 rw [cells27] at e;obtain ⟨D,d⟩:=hf 7 _ rfl
 replace d:Tr enc W n 30 (List.take (prog.cellsOf 30) [c8,c11,c12,c13,c14,c15,c16]) D:=d
 rw [cells30] at d;obtain ⟨C,c⟩:=hf 8 _ rfl
 replace c:Tr enc W n 31 (List.take (prog.cellsOf 31) [c13,c14,c15,c16]) C:=c
 rw [cells31] at c;obtain ⟨B,a⟩:=hf 9 _ rfl
 replace a:Tr enc W n 22 (List.take (prog.cellsOf 22) [c14,c15,c16]) B:=a
 rw [cells22] at a;obtain ⟨L,k⟩:=hf 10 _ rfl
 replace k:Tr enc W n 32 (List.take (prog.cellsOf 32) [c15,c16]) L:=k
 rw [cells32] at k;obtain ⟨K,j⟩:=hf 11 _ rfl
 replace j:Tr enc W n 33 (List.take (prog.cellsOf 33) [c16]) K:=j
 rw [cells33] at j;obtain ⟨V,e0,_,_⟩:=Wp underlying3 h0;simp at e0;obtain ⟨U,e1,_⟩:=fJ underlying4 h1;simp at e1;obtain ⟨S,w,_,_⟩:=Wp underlying3 h2;simp at w;obtain ⟨R,v,_,_⟩:=Wp underlying3 i;simp at v;obtain ⟨Q,u,_,_⟩:=Wp underlying3 g;simp at u;obtain ⟨la0,lk0,ll0,la1,lk1,ll1,p,o,m⟩:=lN f;obtain ⟨a6,k6,l6,t,p6,q6,Z⟩:=lJ e;obtain ⟨P,a7,b7,k7,m7,l,p7,q7⟩:=NF d;obtain ⟨a8,k8,l8,s,p8,_,Y⟩:=oU c;obtain ⟨a9,k9,l9,r,p9,q9,X⟩:=Rw a;obtain ⟨a10,k10,l10,z,p10,q10,r10⟩:=EW k;obtain ⟨a11,k11,l11,x,p11,q11,r11⟩:=jV j;simp at p t l s r z x;refine ⟨⟨V,U,S,R,Q,ll0,ll1,l6,P,l8,l9,l10,l11⟩,⟨la0,lk0,la1,lk1,a6,k6,a7,k7,b7,m7,a8,k8,a9,k9,a10,k10,a11,k11⟩,?_,⟨o.1.1,o.1.2,m.1.1,m.1.2,p6,q6,p7,p8,p9,q9,p10,q10,p11,q11⟩,o.2,m.2,Z,q7,Y,X,r10,r11⟩;rw [e0,e1,w,v,u,p.1,p.2,t,l.1,l.2.1,l.2.2,s,r,z,x]
end
def cell1 : DataW Unit → Value
  | .lit (.int k n) => .int k n
  | .lit (.bool b) => .bool b
  | .lit (.string l) => .string ⟨l.toArray⟩
  | _ => .bool false
def KY : DataW Unit → List Value
  | .agg es => es.map cell1
  | d => [cell1 d]
def cells2 : DataW Unit → Array Value
  | .agg ds => (ds.flatMap KY).toArray
  | _ => #[]
def Ws (g : Nat) (t : Array Value) (w : World) : World := { w with heap := w.heap.modify g fun
      | .cells _ ty frozen => .cells t ty frozen
      | o => o }
end Go.Proofs.YtchjpjmcnhjbcaaGreatDoor
namespace Go.Proofs.YtchjpjmcnhjbcaaGreatDoor
open Proofs.Tryz Go.RowKit
variable {u w w':World} {a:OA} {A A' base c n:Nat} {S ss:LB} {v:Value} {now wd:Int} {Hd:List Int} {t:TypeId} {xs:List Value}
theorem EL (h:P7 w a ss) (ha:ss=[]->a=none\/∃ p,a=some p) (f:Bw w u):Src u (.slice a ss.length c) 1 ss.length (ss.map .string):=by
 rcases h with rfl | ⟨b,off,rfl,hl,h⟩
 · rcases ha rfl with rfl | ⟨p,rfl⟩
   · exact .inl ⟨⟨c,rfl⟩,rfl,rfl⟩
   exact .inr ⟨p,c,rfl,rfl,fun j u e=>by simp at e⟩
 refine .inr ⟨_,c,rfl,X4,fun j v e=>?_⟩;obtain ⟨d,rfl⟩:=Tm.1 e;simp at d;rw [Jq,f.cell (by exact hl),h j d];simp [List.getD,d]
theorem wM (h:P7 w a ss) (b:Bw w u):Src u (.slice a ss.length c) 1 ss.length (ss.map .string):=EL h (fun _=>by cases a;exact .inl rfl;exact .inr ⟨_,rfl⟩) b
theorem zx (h:w.ownsRow base 9 1 v ss.length (ss.map .string)):∃ a c,v=.slice a ss.length c/\P7 w a ss:=by
 obtain ⟨a,c,rfl⟩:=I_ h;refine ⟨a,c,rfl,?_⟩;by_cases h0:ss=[]
 · exact .inl h0
 have d:=pq.2 h0;obtain ⟨g,c',e,f,_⟩:=Nq h (j:=0) (x:=vS (ss[0])) (by simp [d]);injection e with e;subst e;refine .inr ⟨g,0,rfl,f,fun i b=>?_⟩;obtain ⟨g',c'',e,_,h2⟩:=Nq h (j:=i) (x:=vS (ss[i])) (by simp [b]);injection e with e;injection e with e;injection e with e;subst e;rw [L8,h2];simp [List.getD,b]
theorem c57 (sf lo:LB) (sa la:OA) (sc lc:Nat) (w:World) (hl:sf.length+lo.length<=1048576) (p:P7 w sa sf) (q:P7 w la lo):
 Calls prog 57 #[.agg #[.slice sa sf.length sc,.slice la lo.length lc]] w fun e w'=>(∃ a c,e=.returned (.slice a (sf++lo).length c)/\P7 w' a (sf++lo))/\Bw w w':=by
 have A:=U0 p;have z:=U0 q;clear p q;go_enter func57,ntmps57
 go_upto_region 1 with fail
 have t:=U0 (Y4 w [vL sa sf.length sc,vL la lo.length lc] 37);have n:=U0 (P6 (w:=w) (o:=.cells #[vL sa sf.length sc,vL la lo.length lc] 37));generalize w.alloc (.cells #[vL sa sf.length sc,vL la lo.length lc] 37)=V at*;have hd:Bw V V.drew:=(Z4 _ _).drew;have g:Hid (∀ u,Bw V u->u.cell? (aW w 0)=some (vL sa sf.length sc)/\u.cell? (aW w 1)=some (vL la lo.length lc)):=fun u v=>have h:=t.out.below v t.out.lt;⟨h.cell 0,h.cell 1⟩
 refine wp_region_held_drew (S:=fun u=>u.cell? (aW w 0)=some (vL sa sf.length sc)/\u.cell? (aW w 1)=some (vL la lo.length lc)) Y2 (g.out _ hd) fun hH=>?_;refine Y0 1 ?_;refine tq 2 hH ?_;refine Y0 4 ?_;refine Y0 5 ?_;refine rq 0 fun K b=>?_;go_simp;have j:=U0 (row0 (base:=V.heap.size) V.drew 9 1 rfl H8);have d:Bw V (V.drew.alloc (.cells #[] 9)):=hd.alloc H8 _;refine E8 b (g.out _ d) fun hH=>?_;clear b K;refine rq 3 fun K b=>?_;refine Aa rfl _ _ 22 rfl V.heap.size 9 1 underlying22 xE o6 _ 0 [] rfl j.out _ sf.length (sf.map .string) rfl (wM A.out (X5 n.out d)) (Ii _) O0 d.size ?_;intro v1 y1 m g1 e1;rw [L8,Ua] at m;have f:=Bg d g1 d.size (fun k e=>J6 j.out e);have i:=U0 m;clear m g1 e1 j d;refine E8 b (g.out _ f) fun hH=>?_;clear b K;refine rq 6 fun K b=>?_;refine Aa rfl _ _ 22 rfl V.heap.size 9 1 underlying22 xE o6 _ sf.length (sf.map .string) rfl i.out _ lo.length (lo.map .string) rfl (wM z.out (X5 n.out f)) (Ii _) O0 f.size ?_;intro v2 y2 l g2 x;have s:=Bg f g2 f.size (fun k e=>J6 i.out e);rw [<- Og,<- D9] at l;obtain ⟨a,c,rfl,r⟩:=zx l;have y:=U0 r;have B:=U0 (X5 n.out s);clear l g2 x i r;refine E8 b (g.out _ s) fun hH=>?_;clear b K;refine Y0 7 ?_;refine wdn ?_;go_wp2;go_ret;exact ⟨⟨_,_,by rw [D9];rfl,y.out⟩,B.out⟩
theorem a2z (n:Nat) (w:World) (hn:n<=1048576):
 Calls prog 126 #[.slice none 0 0,.int .i64 n] w fun e w'=>(∃ v,e=.returned v/\w'.ownsRow w.heap.size 9 1 v 0 [])/\Bw w w':=by
 by_cases h0:n=0
 · subst h0;go_enter func126,ntmps126;go_wp2;go_ret;exact ⟨⟨_,rfl,mg _ _ _ _⟩,Z4 _ _⟩
 obtain ⟨f,d,c,b,a⟩:=info_parts info9;have hr:∀ u:World,_:=fun u:World=>Lib.run_append_nil_zeros (P:=prog) u 22 3 22 9 f vE .i64 .i64 underlying22 underlying3 d c n O0 (by rw [b];decide) O0 (by rw [a];omega);have h1:(0:Int)<n:=O0;clear d c b a;go_enter func126,ntmps126
 go_wp2_with (refine Lib.wpList_append_run _ rfl _ _ 22 3 rfl _ _ rfl rfl _ _ (hr _) ?_)
 go_ret;refine ⟨⟨_,rfl,rfl,.inr ⟨w.heap.size,grownCap w n 0 9,_,rfl,Nat.le_refl _,heap_alloc_new w _,Nat.zero_le _,grownCap_le_maxLen w n 0 9 (by unfold maxLen;omega),?_,X4⟩⟩,P6.drew⟩;have:=grownCap_ge w n 0 9;rw [Array.size_append,size_zeroCells,size_zeroCells];show n*1+(grownCap w n 0 9 - n)*1=_;omega
theorem c78 (sf lo:LB) (sa la:OA) (sc lc B:Nat) (w:World) (hl:sf.length+lo.length<=1048576) (hB:Cl w B 22 [.slice sa sf.length sc,.slice la lo.length lc]) (r:P7 w sa sf) (t:P7 w la lo):
 Calls prog 78 #[.slice (some ⟨B,0,none⟩) 2 2] w fun e w'=>(∃ v,e=.returned v/\w'.ownsRow w.heap.size 9 1 v (sf++lo).length ((sf++lo).map .string))/\Bw w w':=by
 have C:=U0 r;have A:=U0 t;have u:=U0 hB;have n:=hB.cell 0;have m:=hB.cell 1;simp only [@gz Value] at n m;clear r t hB;go_enter func78,ntmps78
 go_wp2_with fail
 go_loop [3,11] (fun s i=>(i=.int .i64 0/\s=.int .i64 0)\/(i=.int .i64 1/\s=.int .i64 sf.length)\/(i=.int .i64 2/\s=.int .i64 ((sf.length:Int)+lo.length))) (fun _ i=>2 - (RowKit.intOf i).toNat)
 case atStart=>exact .inl ⟨rfl,rfl⟩
 case round=>
  rcases hrel with ⟨rfl,rfl⟩ | ⟨rfl,rfl⟩ | ⟨rfl,rfl⟩
  · go_wp2
    go_round
    case rel=>exact .inr (.inl ⟨rfl,rfl⟩)
    case measure=>simp [RowKit.intOf]
  · go_wp2
    go_round
    case rel=>exact .inr (.inr ⟨rfl,by go_num⟩)
    case measure=>simp [RowKit.intOf]
  go_wp2_with fail
  have g:=a2z (sf.length+lo.length) w hl;rw [Int.natCast_add] at g;refine g.mono ?_;rintro e w1 ⟨⟨v,rfl,hv⟩,x⟩;clear g
  go_wp2_with fail
  go_loopw [6,27] (fun s i wr=>((i=.int .i64 0/\wr.ownsRow w.heap.size 9 1 s ([]:List ByteArray).length (([]:List ByteArray).map .string))\/(i=.int .i64 1/\wr.ownsRow w.heap.size 9 1 s sf.length (sf.map .string))\/(i=.int .i64 2/\wr.ownsRow w.heap.size 9 1 s (sf++lo).length ((sf++lo).map .string)))/\Below w.heap.size w wr) (fun _ i _=>2 - (RowKit.intOf i).toNat)
  case atStart=>exact ⟨.inl ⟨rfl,hv⟩,x⟩
  case round=>
   obtain ⟨hrel,a⟩:=hrel;rcases hrel with ⟨rfl,hr⟩ | ⟨rfl,hr⟩ | ⟨rfl,hr⟩
   · replace n:=(a.cell (p:=(aA B 0)) u.out.lt).trans n
     have f:=U0 hr;have o:=U0 (wM (c:=sc) C.out a);clear hr
     go_wp2_with (refine Xq rfl _ _ 22 rfl w.heap.size 9 1 underlying22 xE o6 _ ([]:LB).length (([]:LB).map .string) rfl f.out _ sf.length (sf.map .string) rfl o.out (Ii _) (by first | omega | (simp;omega)) a.size ?_;intro v' y b d j)
     have l:=U0 (Bg a d a.size (fun k e=>J6 f.out e));have q:=U0 b;clear b d j;go_wp2;go_roundw
     case rel=>exact ⟨.inr (.inl ⟨rfl,by have h:=q.out;simpa using h⟩),l.out⟩
     case measure=>simp [RowKit.intOf]
   · replace m:=(a.cell (p:=(aA B 1)) u.out.lt).trans m
     have f:=U0 hr;have o:=U0 (wM (c:=lc) A.out a);clear hr
     go_wp2_with (refine Xq rfl _ _ 22 rfl w.heap.size 9 1 underlying22 xE o6 _ (sf).length ((sf).map .string) rfl f.out _ lo.length (lo.map .string) rfl o.out (Ii _) (by first | omega | (simp;omega)) a.size ?_;intro v' y b d j)
     have l:=U0 (Bg a d a.size (fun k e=>J6 f.out e));have q:=U0 b;clear b d j;go_wp2;go_roundw
     case rel=>exact ⟨.inr (.inr ⟨rfl,by have h:=q.out;rw [<- Og,<- D9] at h;exact h⟩),l.out⟩
     case measure=>simp [RowKit.intOf]
   have z:=U0 hr;clear hr;go_wp2;go_ret;exact ⟨⟨_,rfl,z.out⟩,a⟩
theorem c71 (sf lo:LB) (sa la:OA) (sc lc:Nat) (w:World) (hl:sf.length+lo.length<=1048576) (d:P7 w sa sf) (f:P7 w la lo):
 Calls prog 71 #[.agg #[.slice sa sf.length sc,.slice la lo.length lc]] w fun e w'=>(∃ a c,e=.returned (.slice a (sf++lo).length c)/\P7 w' a (sf++lo))/\Bw w w':=by
 have b:Bw w ((w.alloc (.cells #[vL sa sf.length sc,vL la lo.length lc] 37)).alloc (.cells #[vL sa sf.length sc,vL la lo.length lc] 22)):=P6.alloc X4 _;have hc:=c78 sf lo sa la sc lc (w.heap.size+1) _ hl (by have h:=Y4 (w.alloc (.cells #[vL sa sf.length sc,vL la lo.length lc] 37)) [vL sa sf.length sc,vL la lo.length lc] 22;simpa using h) (U5 d b) (U5 f b);have k:=U0 b;clear d f b;go_enter func71,ntmps71
 go_wp2_with fail
 refine hc.mono ?_;rintro e w1 ⟨⟨v,rfl,j⟩,g⟩;obtain ⟨a,c,rfl,i⟩:=zx j;have l:=U0 i;have m:=U0 (X5 k.out g);clear hc i g k j;go_wp2;go_ret;exact ⟨⟨_,_,by rw [D9];rfl,l.out⟩,m.out⟩
theorem a3B:Inf prog 3 1:=Ll Y2
theorem c19 (n:Nat) (w:World) (hn:n<=1000):Calls prog 19 #[.int .i64 n] w fun e w'=>(∃ v,e=.returned v/\w'.ownsRow w.heap.size 3 1 v n (List.replicate n (.int .i64 (-1))))/\Bw w w':=by
 go_enter func19,ntmps19
 go_wp2_with fail
 go_loopw [3,4] (fun v i wr=>∃ k:Nat,k<=n/\i=.int .i64 k/\Hid (wr.ownsRow w.heap.size 3 1 v k (List.replicate k (.int .i64 (-1))))/\Below w.heap.size w wr) (fun _ i _=>n - (RowKit.intOf i).toNat)
 case atStart=>exact ⟨0,J4 _,rfl,row0 w 3 1 rfl H8,P6⟩
 case round=>
  obtain ⟨k,hk,rfl,a,d⟩:=hrel;by_cases hlt:k<n;rotate_left
  · obtain rfl:k=n:=O0;go_wp2;go_ret;exact ⟨⟨_,rfl,a.out⟩,d⟩
  have b:Bw wr (wr.alloc (.cells #[vI (-1)] 3)):=P6;have g:=U0 (own_below a.out b);have h:Hid (Src (wr.alloc (.cells #[vI (-1)] 3)) (vL (some (aW wr 0)) 1 1) 1 1 [vI (-1)]):=.inr ⟨_,_,rfl,rfl,fun j u e=>um (Y4 wr [vI (-1)] 3) j u e⟩;have c:=U0 (X5 d b);clear a b
  go_wp2_with (refine Xq rfl _ _ 31 rfl w.heap.size 3 1 underlying31 a3B o6 _ k (List.replicate k (vI (-1))) rfl g.out _ 1 [vI (-1)] rfl h.out (o8 rfl) O0 c.out.size ?_;intro v' y a f _;rw [<- List.replicate_succ'] at a;have l:=U0 a;have m:=U0 (Bg c.out f c.out.size (fun k e=>J6 g.out e));clear a f)
  go_roundw
  case rel=>exact ⟨k+1,O0,by go_num,l,m.out⟩
  case measure=>simp [RowKit.intOf];omega
def ZX (keep:Int) (n:Nat):Nat:=if keep<0 then 0 else min keep.toNat n
/-- What a a5y leaves that fell. -/
def Fl (A:Nat) (w':World) (f:Bs) (v:Value):Prop:=∃ sa sc ha hc,v=.agg (bsV f (qF sa sc ha hc)).toArray/\Kp A w' (fun u=>Oh u f (qF sa sc ha hc))/\Rz A w'.heap.size w' 9 (.slice sa f.sf.length sc) f.sf.length/\Rz A w'.heap.size w' 3 (.slice ha f.hd.length hc) f.hd.length
theorem nT {sa ha:OA} {sc hc:Nat} (h1:P7 u sa S) (h2:Ye u ha Hd):Oh u (Ip wd now S Hd) (qF sa sc ha hc):=⟨h1,.inl rfl,.inl rfl,⟨.inl rfl,.inl rfl⟩,h2,.inl rfl,.inl rfl,.inl rfl⟩
theorem ER (h:w.ownsRow A t 1 v n xs):Kp A w (fun u=>u.ownsRow A t 1 v n xs)/\Rz A w.heap.size w t v n:=by
 obtain ⟨hl,⟨rfl,rfl⟩ | ⟨g,d,cur,rfl,b,a,h1,h2,f,e⟩⟩:=h
 · exact ⟨fun u _ _=>⟨hl,.inl ⟨rfl,rfl⟩⟩,.inl ⟨rfl,rfl⟩⟩
 have c:=(r_.1 a).1;exact ⟨fun u _ k=>⟨hl,.inr ⟨g,d,cur,rfl,b,(k g b c).trans a,h1,h2,f,e⟩⟩,.inr ⟨g,d,cur.toList,rfl,b,c,a,by simp;omega⟩⟩
theorem tV {ss:List Int} (h:w.ownsRow base 3 1 (.slice a ss.length c) ss.length (ss.map (.int .i64))):Ye w a ss:=by
 by_cases h0:ss=[]
 · exact .inl h0
 have d:=pq.2 h0;obtain ⟨g,c',e,f,_⟩:=Nq h (j:=0) (x:=vI (ss[0])) (by simp [d]);injection e with e;subst e;refine .inr ⟨g,0,rfl,f,fun i b=>?_⟩;obtain ⟨g',c'',e,_,h2⟩:=Nq h (j:=i) (x:=vI (ss[i])) (by simp [b]);injection e with e;injection e with e;injection e with e;subst e;rw [L8,h2];simp [List.getD,b]
theorem XQ {c v2:Value} (h1:w'.ownsRow A 9 1 c S.length (S.map .string)) (h2:w'.ownsRow A 3 1 v2 Hd.length (Hd.map (.int .i64))):Fl A w' (Ip wd now S Hd) (.agg #[.int .i64 wd,.bool false,.int .i64 now,.int .i64 0,.int .i64 0,c,.slice none 0 0,.slice none 0 0,.int .i64 0,.slice none 0 0,.slice none 0 0,v2,.slice none 0 0,.slice none 0 0,.slice none 0 0]):=by
 obtain ⟨sa,sc,rfl,_⟩:=zx h1;obtain ⟨ha,hc,rfl⟩:=I_ h2;obtain ⟨i,f⟩:=ER h1;obtain ⟨g,d⟩:=ER h2;refine ⟨sa,sc,ha,hc,rfl,fun u a b=>?_,f,d⟩;obtain ⟨_,_,e,h⟩:=zx (i u a b);injection e with e;subst e;exact nT h (tV (g u a b))
theorem XG (n:Nat):(List.replicate n (-1:Int)).map (Value.int .i64)=List.replicate n (.int .i64 (-1)):=by simp
theorem jZ {g:Nat} (h:Cl w g t xs) (b:A<=g) (a:xs.length=n) (hm:n<=1000):w.ownsRow A t 1 (.slice (some ⟨g,0,none⟩) n n) n xs:=⟨by simpa using a,.inr ⟨g,n,xs.toArray,rfl,b,h,H8,by unfold maxLen;omega,by simp [a],by simp [<- a]⟩⟩
theorem Ru (h:w.ownsRow A t 1 v n xs) (a:Bw w w') (hA:A'<=A):w'.ownsRow A' t 1 v n xs:=H9 (own_below h a) hA
theorem rF {B:Nat} (h:w.ownsRow A t 1 v n xs) (o:uy B w w') (hB:B<A) (hA:A'<=A):w'.ownsRow A' t 1 v n xs:=⟨h.1,h.2.imp id fun ⟨g,c,cur,h1,h2,b,a⟩=>⟨g,c,cur,h1,O0,(o.block g O0).trans b,a⟩⟩
theorem WB (h:P7 w a ss) (k:Nat):P7 w a (ss.take k):=by
 rcases h with rfl | ⟨b,o,h1,h2,d⟩
 · exact .inl (by simp)
 refine .inr ⟨b,o,h1,h2,fun i c=>?_⟩;rw [B_] at c;rw [d i O0];simp [List.getD,show i<k by omega]
theorem c28 (b:Bs) (q:Ba) (keep:Int) (w:World) (hsl:b.sf.length+b.lo.length<=1048576) (N:1<=b.hd.length/\b.hd.length<=4) (hcp:b.lo.length<=q.lc) (x:Oh w b q):
 Calls prog 28 #[.agg (bsV b q).toArray,.int .i64 keep] w fun e w'=>(∃ v,e=.returned v/\Fl w.heap.size w' (Ip b.wd b.now (b.sf++b.lo.take (ZX keep b.lo.length)) (List.replicate b.hd.length (-1))) v)/\Bw w w':=by
 have X:=U0 x;obtain ⟨k,t,hk2⟩:∃ k:Nat,ZX keep b.lo.length=k/\k<=b.lo.length:=⟨_,rfl,by unfold ZX;split<;>omega⟩;have J:min (max keep 0) (b.lo.length:Int)=(k:Int):=by rw [<- t];unfold ZX;split<;>omega
 rw [t];have L:(b.lo.take k).length=k:=by simp;omega
 have W:=U0 (WB x.lo k);clear x t;go_enter func28,ntmps28
 go_upto_region 1 with fail
 have C:=U0 (G9 (Y4 w (bsV b q) 47) (.cells bz.toArray 47));have R:=U0 (show Cl ((w.alloc (.cells (bsV b q).toArray 47)).alloc (.cells bz.toArray 47)) (w.heap.size+1) 47 bz by have h:=Y4 (w.alloc (.cells (bsV b q).toArray 47)) bz 47;simpa using h);have f:Hid (Bw w ((w.alloc (.cells (bsV b q).toArray 47)).alloc (.cells bz.toArray 47))):=P6.alloc X4 _;generalize (w.alloc (.cells (bsV b q).toArray 47)).alloc (.cells bz.toArray 47)=V at*
 go_upto_region 2 with (refine U8 C.out rfl _ _ rfl rfl rfl Y2 ?_)
 have hd:Bw V V.drew:=(Z4 _ _).drew;have m:Hid (∀ u,Cl u w.heap.size 47 (bsV b q)->u.cell? (aW w 0)=some (vI b.wd)/\u.cell? (aW w 2)=some (vI b.now)/\u.cell? (aW w 5)=some (vL q.sa b.sf.length q.sc)/\u.cell? (aW w 6)=some (vL q.la b.lo.length q.lc)/\u.cell? (aW w 11)=some (vL q.ha b.hd.length q.hc)):=fun u h=>⟨h.cell 0,h.cell 2,h.cell 5,h.cell 6,h.cell 11⟩;have hk3:(k:Int)<=(q.lc:Int):=O0;have hk4:(0:Int)<=k:=O0;clear J;refine wp_region_held_drew (S:=fun u=>u.cell? (aW w 0)=some (vI b.wd)/\u.cell? (aW w 2)=some (vI b.now)/\u.cell? (aW w 5)=some (vL q.sa b.sf.length q.sc)/\u.cell? (aW w 6)=some (vL q.la b.lo.length q.lc)/\u.cell? (aW w 11)=some (vL q.ha b.hd.length q.hc)) Y2 (m.out _ (C.out.below hd C.out.lt)) fun hH=>?_;refine Y0 0 ?_;refine Y0 1 ?_;refine Y0 2 ?_;refine Y0 3 ?_;refine Y0 4 ?_;refine Y0 5 ?_;refine Y0 6 ?_;refine Y0 7 ?_;refine Y0 8 ?_;refine Y0 9 ?_;refine Y0 10 ?_;refine Y0 11 ?_;refine Y0 15 ?_;refine Y0 16 ?_;refine Y0 17 ?_;refine rq 12 fun K d=>?_;go_simp;have r:=U0 ((P6 (w:=V) (o:=.cells #[vL q.sa b.sf.length q.sc,vL q.la k q.lc] 22)).drew);have E:Hid (Cl (V.alloc (.cells #[vL q.sa b.sf.length q.sc,vL q.la k q.lc] 22)).drew V.heap.size 22 [vL q.sa b.sf.length q.sc,vL q.la k q.lc]):=Y4 V [vL q.sa b.sf.length q.sc,vL q.la k q.lc] 22;generalize (V.alloc (.cells #[vL q.sa b.sf.length q.sc,vL q.la k q.lc] 22)).drew=V1 at*
 replace C:=U0 (C.out.below r.out C.out.lt)
 replace R:=U0 (R.out.below r.out R.out.lt)
 replace f:=U0 (X5 f.out r.out)
 clear r hd;refine E8 d (m.out _ C.out) fun hH=>?_;clear d K;refine rq 13 fun K d=>?_;go_simp;refine (c78 b.sf (b.lo.take k) q.sa q.la q.sc q.lc V.heap.size V1 O0 (by rw [L];exact E.out) (U5 X.out.sf f.out) (U5 W.out f.out)).mono ?_;rintro e H ⟨⟨I,rfl,y⟩,i⟩;obtain ⟨s,n1,p,rfl⟩:∃ s n1 p,I=vL s n1 p:=by obtain ⟨a,c,e⟩:=I_ y;exact ⟨a,_,c,e⟩
 have D:=U0 (Ru (A':=w.heap.size+2) y (Z4 _ _) (by have:=R.out.lt;omega))
 replace C:=U0 (C.out.below i C.out.lt)
 replace R:=U0 (R.out.below i R.out.lt)
 replace f:=U0 (X5 f.out i)
 clear i y E
 go_wp2_with fail
 refine E8 d (m.out _ C.out) fun hH=>?_;clear d K;refine Y0 14 ?_;refine rq 18 fun K d=>?_;go_simp;refine (c79 b.hd.length H N).mono ?_;rintro e y2 ⟨⟨g,rfl,O,hC⟩,i⟩;have U:=U0 (jZ (n:=b.hd.length) hC (A:=w.heap.size+2) (by have:=R.out.lt;omega) X4 O0)
 replace D:=U0 (Ru D.out i H8)
 replace C:=U0 (C.out.below i C.out.lt)
 replace R:=U0 (R.out.below i R.out.lt)
 replace f:=U0 (X5 f.out i)
 clear i hC O
 go_wp2_with fail
 refine E8 d (m.out _ C.out) fun hH=>?_;clear d K;refine Y0 19 ?_;refine rq 20 fun K d=>?_;refine t_ rfl 47 _ _ rfl (B:=w.heap.size+1) (j:=0) rfl (vs:=[vI b.wd,.bool false,vI b.now,vO,vO,vL s n1 p,vN,vN,vO,vN,vN,vL (some (aA g 0)) b.hd.length b.hd.length,vN,vN,vN]) rfl R.out H8 (o8 rfl) Y2 ?_;intro z Q l;have F:=U0 (XQ (A:=w.heap.size) (wd:=b.wd) (now:=b.now) (S:=b.sf++b.lo.take k) (Hd:=List.replicate b.hd.length (-1)) (rF D.out l O0 O0) (by rw [XG,Uy];exact rF U.out l O0 O0))
 replace C:=U0 (C.out.on l O0)
 replace f:=U0 (f.out.trans (l.below O0))
 clear l;refine E8 d (m.out _ C.out) fun hH=>?_;clear d K;refine wdn ?_;go_wp2;exact Y6 (Q8 (P:=prog) (ty:=47) rfl _ z (w.heap.size+1) [vI b.wd,.bool false,vI b.now,vO,vO,vL s n1 p,vN,vN,vO,vN,vN,vL (some (aA g 0)) b.hd.length b.hd.length,vN,vN,vN] _ rfl Q.blk underlying47 rfl Y2) rfl ⟨⟨_,rfl,F.out⟩,f.out⟩
