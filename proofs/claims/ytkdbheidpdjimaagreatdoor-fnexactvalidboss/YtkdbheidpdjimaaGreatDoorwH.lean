import Derived.Test.YtkdbheidpdjimaaGreatDoorvX
import Derived.ProofKit
import Derived.OpenShut
import Derived.ShutString
import Derived.ChangeOld
import Derived.SliceStrings
import Derived.Deep.Strs
import Derived.Deep.Slices
import Derived.OpenVars
import Derived.HandedShaped
import Derived.Shelf.Vars
import Derived.Deep.DeepHandedRow
import Derived.Deep.DeepWitnessRowRef
import Derived.SevenTiedAt
import Derived.ChangeArms
import Derived.LaidMore
import Derived.LaidOnce
import Derived.LaidHandle
import Derived.Test.YtkdbheidpdjimaaGreatDoorwB
set_option linter.unusedVariables false
set_option maxHeartbeats 8000000
set_option maxRecDepth 100000
namespace Go.Proofs.YtkdbheidpdjimaaGreatDoor
open Proofs.Tryz Go.ChangeShapes Go.WideShapes Go.ChangeAt Go.RowKit
variable {H α:Type} {enc:TypeId×Value->H} {W:World} {fuel:Nat} {cs:List Value} {y:DataW H×List MemPlace}
theorem cells9:prog.cellsOf 9=1:=J3
theorem cells4:prog.cellsOf 4=1:=J3
theorem cells3:prog.cellsOf 3=1:=J3
theorem cells22:prog.cellsOf 22=1:=J3
theorem cells25:prog.cellsOf 25=1:=J3
theorem cells24:prog.cellsOf 24=2:=J3
theorem cells27:prog.cellsOf 27=1:=J3
theorem cells28:prog.cellsOf 28=1:=J3
theorem cells30:prog.cellsOf 30=3:=J3
theorem cells31:prog.cellsOf 31=1:=J3
theorem cells32:prog.cellsOf 32=1:=J3
theorem cells33:prog.cellsOf 33=1:=J3
theorem cells35:prog.cellsOf 35=15:=J3
theorem oV:prog.cellsOf 90=1:=J3
theorem sF:prog.cellsOf 92=2:=J3
theorem IJ:prog.cellsOf 94=6:=J3
theorem wK:prog.cellsOf 97=3:=J3
theorem QF:prog.cellsOf 154=2:=J3
theorem ER:prog.cellsOf 156=1:=J3
theorem aH:prog.cellsOf 158=3:=J3
theorem DF:prog.cellsOf 241=4:=J3
theorem kG:prog.cellsOf 312=3:=J3
theorem YX {l:List α} (h:l.length=1):∃ a,l=[a]:=by
 match l,h with
 | [a],_=>exact ⟨_,rfl⟩
theorem SH {l:List α} (h:l.length=2):∃ b a,l=[b,a]:=by
 match l,h with
 | [b,a],_=>exact ⟨_,_,rfl⟩
theorem jE {l:List α} (h:l.length=3):∃ b a a2,l=[b,a,a2]:=by
 match l,h with
 | [b,a,a2],_=>exact ⟨_,_,_,rfl⟩
theorem tY {l:List α} (h:l.length=4):∃ c b a2 a,l=[c,b,a2,a]:=by
 match l,h with
 | [c,b,a2,a],_=>exact ⟨_,_,_,_,rfl⟩
theorem wY {l:List α} (h:l.length=6):∃ e d a2 c b a,l=[e,d,a2,c,b,a]:=by
 match l,h with
 | [e,d,a2,c,b,a],_=>exact ⟨_,_,_,_,_,_,rfl⟩
theorem oU {l:List α} (h:l.length=15):∃ p o a2 g f e d c b a n m k j i,l=[p,o,a2,g,f,e,d,c,b,a,n,m,k,j,i]:=by
 match l,h with
 | [p,o,a2,g,f,e,d,c,b,a,n,m,k,j,i],_=>exact ⟨_,_,_,_,_,_,_,_,_,_,_,_,_,_,_,rfl⟩
theorem Kr (b off i:Nat):(⟨b,off,none⟩:Addr).add i=⟨b,off+i,none⟩:=by unfold Addr.add;split<;>simp_all
theorem own:ownKnob prog.godebug=none:=J3
theorem laidOut:laidOutB prog=true:=J3
theorem vT (d:α) {sl k:TypeId} {n:Nat} (t:prog.underlying sl=some (.slice k)) (hc:prog.cellsOf k=n) (B:0<n) (Q:List Value->α->Prop)
 (hQ:∀ fuel cs y,DataW.trod enc prog W 0 (fun _=>true) true fuel k cs=some y->∃ x,Q cs x) (hf:DataW.trod enc prog W 0 (fun _=>true) true fuel sl cs=some y):
 ∃ (a:OA) (r:Nat) (is:List α),cs=[.slice a is.length r]/\is.length<=maxLen/\TA W a is d n (fun w b o x=>∃ c,Q c x/\Bc w b o c):=by
 rcases Go.Deep.open_slice t hf with ⟨rfl,_⟩ | ⟨a,len,r,m,n',D,Pl,rfl,_,hl,hm,l,_,hx⟩
 · exact ⟨none,0,[],rfl,D5 _,.inl rfl⟩
 simp only [if_true] at l;subst l;have E:∀ i,i<m->∃ x:α,∃ c,W.cells? 0 (a.add (i*n)) n=some c/\Q c x:=fun i g=>by
  obtain ⟨c,h1,h2⟩:=hx i g;obtain ⟨x,z⟩:=hQ _ _ _ h2;rw [hc] at h1;exact ⟨x,c,h1,z⟩
 obtain ⟨V,hV⟩:=@Go.Deep.choose_lt α ⟨d⟩ m (fun i x=>∃ c,W.cells? 0 (a.add (i*n)) n=some c/\Q c x) E;have j:((List.range len).map V).length=len:=I4;have C:∀ i,i<len->((List.range len).map V).getD i d=V i:=fun i g=>by simp [List.getD,g]
 refine ⟨some a,m,(List.range len).map V,by rw [j],by rw [j];omega,?_⟩;rcases Iu len with h0 | h0
 · exact .inl (by rw [h0];rfl)
 obtain ⟨b,off,s⟩:=a;obtain ⟨cs0,f,_⟩:=hV 0 O0;obtain ⟨_,F,f⟩:=World.cells?_some f;have f:=f 0 B;rw [y9 O0] at f;have u:s=none:=by simpa [Addr.add] using World.cell?_spot f
 subst u;refine .inr ⟨b,off,rfl,?_,fun i g=>?_⟩
 · rw [Kr,Kr] at f;rcases o8 b W.heap.size with h | h
   · exact h
   · simp [World.cell?,Bq h] at f
 rw [j] at g;rw [C i g];obtain ⟨c,h1,h2⟩:=hV i O0;refine ⟨c,h2,fun q v e=>?_⟩;obtain ⟨_,F,I⟩:=World.cells?_some h1;have A:q<n:=by have:=(Nj.1 e).1;omega
 have p:=I q A;rw [Kr,Kr] at p;exact p.trans e
theorem Qe {t:TypeId} {fs:Array Field} (ht:prog.underlying t=some (.struct fs)) (h:DataW.trod enc prog W 0 (fun _=>true) true fuel t cs=some y):
 ∃ n,cs.length=prog.cellsOf t/\∀ (i:Nat) (f:Field),fs[i]?=some f->∃ z,DataW.trod enc prog W 0 (fun _=>true) true n f.type ((cs.drop f.offset).take (prog.cellsOf f.type))=some z:=by
 obtain ⟨xs,n,_,rfl,hl,a,hf⟩:=DataW.trod_struct ht h;refine ⟨n,hl,fun i f e=>?_⟩;have b:i<xs.length:=by rw [a];exact (D_.1 e).1
 exact ⟨xs[i],(hf i f e).trans (y9 b)⟩
abbrev Tr {H:Type} (enc:TypeId×Value->H) (W:World) (n:Nat) (t:TypeId) (cs:List Value) (y:DataW H×List MemPlace):Prop:=DataW.trod enc prog W 0 (fun _=>true) true n t cs=some y
section
variable {H:Type} {enc:TypeId×Value->H} {W:World} {fuel:Nat} {cs:List Value} {y:DataW H×List MemPlace}
theorem ak {α:Type} (d:α) {sl g:TypeId} {n:Nat} (l:prog.underlying sl=some (.slice g)) (hc:prog.cellsOf g=n) (m:0<n) (Q:List Value->α->Prop) (R:α->Prop) (hR:R d)
 (hQ:∀ fuel cs y,DataW.trod enc prog W 0 (fun _=>true) true fuel g cs=some y->∃ x,Q cs x/\R x) (hf:Tr enc W fuel sl cs y):
 ∃ (a:OA) (j:Nat) (is:List α),cs=[.slice a is.length j]/\is.length<=maxLen/\(∀ i,R (is.getD i d))/\TA W a is d n (fun w b o x=>∃ k,Q k x/\Bc w b o k):=by
 obtain ⟨a,j,is,e,hl,h⟩:=vT d l hc m (fun cs x=>Q cs x/\R x) hQ hf;refine ⟨a,j,is,e,hl,fun i=>?_,?_⟩
 · by_cases f:i<is.length
   · rcases h with h | ⟨b,off,_,_,h⟩
     · subst h;exact hR
     obtain ⟨_,h,_⟩:=h i f;exact h.2
   · rw [List.getD,Ec O0];exact hR
 rcases h with h | ⟨b,off,h1,h2,h⟩
 · exact .inl h
 exact .inr ⟨b,off,h1,h2,fun i f=>by obtain ⟨c,h,p⟩:=h i f;exact ⟨c,h.1,p⟩⟩
theorem BN (h:Tr enc W fuel 9 cs y):∃ x:BY,cs=[.string x]/\x.size<=maxLen:=by
 obtain ⟨s,e,_,a⟩:=Ym underlying9 h;exact ⟨s,e,a⟩
theorem iM (h:Tr enc W fuel 3 cs y):∃ x:Int,cs=[.int .i64 x]/\x=x:=by
 obtain ⟨s,e,_⟩:=Fq underlying3 h;exact ⟨s,e,rfl⟩
theorem ZO (h:Tr enc W fuel 154 cs y):∃ x:T.F2,cs=mG x/\x.le maxLen:=by
 obtain ⟨n,hl,hf⟩:=Qe underlying154 h;rw [QF] at hl;obtain ⟨i,a,rfl⟩:=SH hl;obtain ⟨c,h0⟩:=hf 0 _ rfl
 replace h0:Tr enc W n 9 (List.take (prog.cellsOf 9) [i,a]) c:=h0
 rw [cells9] at h0;obtain ⟨b,h1⟩:=hf 1 _ rfl
 replace h1:Tr enc W n 9 (List.take (prog.cellsOf 9) [a]) b:=h1
 rw [cells9] at h1;obtain ⟨e,e0,_,g⟩:=Ym underlying9 h0;simp at e0;obtain ⟨d,e1,_,f⟩:=Ym underlying9 h1;simp at e1;exact ⟨⟨e,d⟩,by rw [e0,e1];rfl,g,f⟩
theorem cO (h:Tr enc W fuel 97 cs y):∃ x:Jb,cs=dB x/\x.nm.size<=maxLen:=by
 obtain ⟨n,hl,hf⟩:=Qe underlying97 h;rw [wK] at hl;obtain ⟨k,b,c2,rfl⟩:=jE hl;obtain ⟨e,h0⟩:=hf 0 _ rfl
 replace h0:Tr enc W n 9 (List.take (prog.cellsOf 9) [k,b,c2]) e:=h0
 rw [cells9] at h0;obtain ⟨d,h1⟩:=hf 1 _ rfl
 replace h1:Tr enc W n 3 (List.take (prog.cellsOf 3) [b,c2]) d:=h1
 rw [cells3] at h1;obtain ⟨c,h2⟩:=hf 2 _ rfl
 replace h2:Tr enc W n 3 (List.take (prog.cellsOf 3) [c2]) c:=h2
 rw [cells3] at h2;obtain ⟨i,e0,_,j⟩:=Ym underlying9 h0;simp at e0;obtain ⟨g,e1,_,_⟩:=Fq underlying3 h1;simp at e1;obtain ⟨f,a,_,_⟩:=Fq underlying3 h2;simp at a;exact ⟨⟨i,g,f⟩,by rw [e0,e1,a];rfl,j⟩
theorem ZN (h:Tr enc W fuel 312 cs y):∃ x:G3,cs=wG x/\x.le maxLen:=by
 obtain ⟨n,hl,hf⟩:=Qe underlying312 h;rw [kG] at hl;obtain ⟨l,b,c2,rfl⟩:=jE hl;obtain ⟨e,h0⟩:=hf 0 _ rfl
 replace h0:Tr enc W n 4 (List.take (prog.cellsOf 4) [l,b,c2]) e:=h0
 rw [cells4] at h0;obtain ⟨d,h1⟩:=hf 1 _ rfl
 replace h1:Tr enc W n 9 (List.take (prog.cellsOf 9) [b,c2]) d:=h1
 rw [cells9] at h1;obtain ⟨c,h2⟩:=hf 2 _ rfl
 replace h2:Tr enc W n 9 (List.take (prog.cellsOf 9) [c2]) c:=h2
 rw [cells9] at h2;obtain ⟨i,e0,_⟩:=WH underlying4 h0;simp at e0;obtain ⟨g,e1,_,k⟩:=Ym underlying9 h1;simp at e1;obtain ⟨f,a,_,j⟩:=Ym underlying9 h2;simp at a;exact ⟨⟨i,g,f⟩,by rw [e0,e1,a];rfl,k,j⟩
theorem gy (h:Tr enc W fuel 92 cs y):∃ (c:Int) (t:BY),cs=[.int .i64 c,.string t]/\t.size<=maxLen:=by
 obtain ⟨n,hl,hf⟩:=Qe underlying92 h;rw [sF] at hl;obtain ⟨i,a,rfl⟩:=SH hl;obtain ⟨d,h0⟩:=hf 0 _ rfl
 replace h0:Tr enc W n 3 (List.take (prog.cellsOf 3) [i,a]) d:=h0
 rw [cells3] at h0;obtain ⟨b,h1⟩:=hf 1 _ rfl
 replace h1:Tr enc W n 9 (List.take (prog.cellsOf 9) [a]) b:=h1
 rw [cells9] at h1;obtain ⟨f,e0,_,_⟩:=Fq underlying3 h0;simp at e0;obtain ⟨e,e1,_,g⟩:=Ym underlying9 h1;simp at e1;exact ⟨f,e,by rw [e0,e1],g⟩
theorem EI (h:Tr enc W fuel 241 cs y):∃ x:L4,cs=NG x/\x.le maxLen:=by
 obtain ⟨n,hl,hf⟩:=Qe underlying241 h;rw [DF] at hl;obtain ⟨k,b,c2,c3,rfl⟩:=tY hl;obtain ⟨f,h0⟩:=hf 0 _ rfl
 replace h0:Tr enc W n 4 (List.take (prog.cellsOf 4) [k,b,c2,c3]) f:=h0
 rw [cells4] at h0;obtain ⟨e,h1⟩:=hf 1 _ rfl
 replace h1:Tr enc W n 9 (List.take (prog.cellsOf 9) [b,c2,c3]) e:=h1
 rw [cells9] at h1;obtain ⟨d,h2⟩:=hf 2 _ rfl
 replace h2:Tr enc W n 92 (List.take (prog.cellsOf 92) [c2,c3]) d:=h2
 rw [sF] at h2;obtain ⟨i,e0,_⟩:=WH underlying4 h0;simp at e0;obtain ⟨g,e1,_,j⟩:=Ym underlying9 h1;simp at e1;obtain ⟨c,t,a,ht⟩:=gy h2;simp at a;exact ⟨⟨i,g,c,t⟩,by rw [e0,e1,a.1,a.2];rfl,j,ht⟩
theorem Xw (h:Tr enc W fuel 22 cs y):∃ a c is,cs=[.slice a is.length c]/\is.length<=maxLen/\(∀ i,(is.getD i ByteArray.empty).size<=maxLen)/\y8 W a is:=by
 obtain ⟨a,c,is,e,hl,hr,h⟩:=ak ByteArray.empty (α:=ByteArray) underlying22 cells9 O6 (fun cs x=>cs=[.string x]) (fun x=>x.size<=maxLen) (D5 _) (fun _ _ _ h=>BN h) h;refine ⟨a,c,is,e,hl,hr,?_⟩;rcases h with h | ⟨b,off,h1,h2,f⟩
 · exact .inl h
 refine .inr ⟨b,off,h1,h2,fun i d=>?_⟩;obtain ⟨_,rfl,h⟩:=f i d;simpa using h 0 _ rfl
theorem uU (h:Tr enc W fuel 31 cs y):∃ a c is,cs=[.slice a is.length c]/\is.length<=maxLen/\(∀ i,(is.getD i (0:Int))=(is.getD i (0:Int)))/\Df W a is:=by
 obtain ⟨a,c,is,e,hl,hr,h⟩:=ak (0:Int) (α:=Int) underlying31 cells3 O6 (fun cs x=>cs=[.int .i64 x]) (fun x=>x=x) (rfl) (fun _ _ _ h=>iM h) h;refine ⟨a,c,is,e,hl,hr,?_⟩;rcases h with h | ⟨b,off,h1,h2,f⟩
 · exact .inl h
 refine .inr ⟨b,off,h1,h2,fun i d=>?_⟩;obtain ⟨_,rfl,h⟩:=f i d;simpa using h 0 _ rfl
theorem iU (h:Tr enc W fuel 25 cs y):∃ a c is,cs=[.slice a is.length c]/\is.length<=maxLen/\(∀ i,(is.getD i T.P8).le maxLen)/\T.J6 W a is:=by
 obtain ⟨a,c,is,e,hl,hr,h⟩:=ak T.P8 (α:=T.F2) underlying25 QF O6 (fun cs x=>cs=mG x) (fun x=>x.le maxLen) (⟨D5 _,D5 _⟩) (fun _ _ _ h=>ZO h) h;refine ⟨a,c,is,e,hl,hr,?_⟩;rcases h with h | ⟨b,off,h1,h2,f⟩
 · exact .inl h
 refine .inr ⟨b,off,h1,h2,fun i d=>?_⟩;obtain ⟨_,rfl,h⟩:=f i d;exact ⟨h 0 _ rfl,h 1 _ rfl⟩
theorem uS (h:Tr enc W fuel 33 cs y):∃ a c is,cs=[.slice a is.length c]/\is.length<=maxLen/\(∀ i,(is.getD i Oc).nm.size<=maxLen)/\Uk W a is:=by
 obtain ⟨a,c,is,e,hl,hr,h⟩:=ak Oc (α:=Jb) underlying33 wK O6 (fun cs x=>cs=dB x) (fun x=>x.nm.size<=maxLen) (D5 _) (fun _ _ _ h=>cO h) h;refine ⟨a,c,is,e,hl,hr,?_⟩;rcases h with h | ⟨b,off,h1,h2,f⟩
 · exact .inl h
 refine .inr ⟨b,off,h1,h2,fun i d=>?_⟩;obtain ⟨_,rfl,h⟩:=f i d;exact h
theorem sS (h:Tr enc W fuel 156 cs y):∃ a c is,cs=[.slice a is.length c]/\is.length<=maxLen/\(∀ i,(is.getD i Yg).le maxLen)/\Z_ W a is:=by
 obtain ⟨a,c,is,e,hl,hr,h⟩:=ak Yg (α:=G3) underlying156 kG O6 (fun cs x=>cs=wG x) (fun x=>x.le maxLen) (⟨D5 _,D5 _⟩) (fun _ _ _ h=>ZN h) h;refine ⟨a,c,is,e,hl,hr,?_⟩;rcases h with h | ⟨b,off,h1,h2,f⟩
 · exact .inl h
 refine .inr ⟨b,off,h1,h2,fun i d=>?_⟩;obtain ⟨_,rfl,h⟩:=f i d;exact ⟨h 0 _ rfl,h 1 _ rfl,h 2 _ rfl⟩
theorem DV (h:Tr enc W fuel 90 cs y):∃ a c is,cs=[.slice a is.length c]/\is.length<=maxLen/\(∀ i,(is.getD i O_).le maxLen)/\I9 W a is:=by
 obtain ⟨a,c,is,e,hl,hr,h⟩:=ak O_ (α:=L4) underlying90 DF O6 (fun cs x=>cs=NG x) (fun x=>x.le maxLen) (⟨D5 _,D5 _⟩) (fun _ _ _ h=>EI h) h;refine ⟨a,c,is,e,hl,hr,?_⟩;rcases h with h | ⟨b,off,h1,h2,f⟩
 · exact .inl h
 refine .inr ⟨b,off,h1,h2,fun i d=>?_⟩;obtain ⟨_,rfl,h⟩:=f i d;exact ⟨h 0 _ rfl,h 1 _ rfl,h 2 _ rfl,h 3 _ rfl⟩
theorem wL (h:Tr enc W fuel 158 cs y):∃ x:R3,(∃ c q,cs=qM (x,.slice c x.gs.length q)/\Z_ W c x.gs)/\x.le maxLen:=by
 obtain ⟨n,hl,hf⟩:=Qe underlying158 h;rw [aH] at hl;obtain ⟨r,b,c2,rfl⟩:=jE hl;obtain ⟨f,h0⟩:=hf 0 _ rfl
 replace h0:Tr enc W n 9 (List.take (prog.cellsOf 9) [r,b,c2]) f:=h0
 rw [cells9] at h0;obtain ⟨e,h1⟩:=hf 1 _ rfl
 replace h1:Tr enc W n 156 (List.take (prog.cellsOf 156) [b,c2]) e:=h1
 rw [ER] at h1;obtain ⟨d,h2⟩:=hf 2 _ rfl
 replace h2:Tr enc W n 9 (List.take (prog.cellsOf 9) [c2]) d:=h2
 rw [cells9] at h2;obtain ⟨i,e0,_,m⟩:=Ym underlying9 h0;simp at e0;obtain ⟨s,j,gs,e1,o,l,p⟩:=sS h1;simp at e1;obtain ⟨g,a,_,k⟩:=Ym underlying9 h2;simp at a;exact ⟨⟨i,gs,g⟩,⟨s,j,by rw [e0,e1,a];rfl,p⟩,m,o,l,k⟩
theorem zQ (h:Tr enc W fuel 94 cs y):∃ x:Rn,(∃ i B,cs=Ht (x,.slice i x.ls.length B)/\I9 W i x.ls)/\x.le maxLen:=by
 obtain ⟨n,hl,hf⟩:=Qe underlying94 h;rw [IJ] at hl;obtain ⟨C,g,c2,c3,c4,c5,rfl⟩:=wY hl;obtain ⟨o,h0⟩:=hf 0 _ rfl
 replace h0:Tr enc W n 9 (List.take (prog.cellsOf 9) [C,g,c2,c3,c4,c5]) o:=h0
 rw [cells9] at h0;obtain ⟨m,h1⟩:=hf 1 _ rfl
 replace h1:Tr enc W n 3 (List.take (prog.cellsOf 3) [g,c2,c3,c4,c5]) m:=h1
 rw [cells3] at h1;obtain ⟨l,h2⟩:=hf 2 _ rfl
 replace h2:Tr enc W n 9 (List.take (prog.cellsOf 9) [c2,c3,c4,c5]) l:=h2
 rw [cells9] at h2;obtain ⟨k,b⟩:=hf 3 _ rfl
 replace b:Tr enc W n 90 (List.take (prog.cellsOf 90) [c3,c4,c5]) k:=b
 rw [oV] at b;obtain ⟨j,a⟩:=hf 4 _ rfl
 replace a:Tr enc W n 92 (List.take (prog.cellsOf 92) [c4,c5]) j:=a
 rw [sF] at a;obtain ⟨r,e0,_,w⟩:=Ym underlying9 h0;simp at e0;obtain ⟨q,e1,_,_⟩:=Fq underlying3 h1;simp at e1;obtain ⟨p,f,_,v⟩:=Ym underlying9 h2;simp at f;obtain ⟨D,s,ls,e,z,u,A⟩:=DV b;simp at e;obtain ⟨c,t,d,ht⟩:=gy a;simp at d;exact ⟨⟨r,q,p,ls,c,t⟩,⟨D,s,by rw [e0,e1,f,e,d.1,d.2];rfl,A⟩,w,v,⟨z,u⟩,ht⟩
theorem openedR (h:Tr enc W fuel 28 cs y):∃ a f is,cs=[.slice a is.length f]/\is.length<=maxLen/\(∀ i,(is.getD i g_).le maxLen)/\Jg W a is:=by
 obtain ⟨a,f,is,e,hl,hr,h⟩:=ak g_ (α:=R3) underlying28 aH O6 (fun cs x=>∃ c d,cs=qM (x,.slice c x.gs.length d)/\Z_ W c x.gs) (fun x=>x.le maxLen) (⟨D5 _,D5 _,fun _=>⟨D5 _,D5 _⟩,D5 _⟩) (fun _ _ _ h=>wL h) h;refine ⟨a,f,is,e,hl,hr,?_⟩;rcases h with h | ⟨b,off,h1,h2,k⟩
 · exact .inl h
 refine .inr ⟨b,off,h1,h2,fun i g=>?_⟩;obtain ⟨_,⟨c,d,rfl,j⟩,h⟩:=k i g;exact ⟨c,d,h 0 _ rfl,h 1 _ rfl,h 2 _ rfl,j⟩
theorem QV (h:Tr enc W fuel 32 cs y):∃ a f is,cs=[.slice a is.length f]/\is.length<=maxLen/\(∀ i,(is.getD i Aa).le maxLen)/\Dj W a is:=by
 obtain ⟨a,f,is,e,hl,hr,h⟩:=ak Aa (α:=Rn) underlying32 IJ O6 (fun cs x=>∃ c d,cs=Ht (x,.slice c x.ls.length d)/\I9 W c x.ls) (fun x=>x.le maxLen) (⟨D5 _,D5 _,⟨D5 _,fun _=>⟨D5 _,D5 _⟩⟩,D5 _⟩) (fun _ _ _ h=>zQ h) h;refine ⟨a,f,is,e,hl,hr,?_⟩;rcases h with h | ⟨b,off,h1,h2,k⟩
 · exact .inl h
 refine .inr ⟨b,off,h1,h2,fun i g=>?_⟩;obtain ⟨_,⟨c,d,rfl,j⟩,h⟩:=k i g;exact ⟨c,d,h,j⟩
theorem MN (h:Tr enc W fuel 24 cs y):∃ d f b c e a,cs=[.slice d b.length f,.slice c a.length e]/\((b.length<=maxLen/\∀ i,(b.getD i ByteArray.empty).size<=maxLen)/\y8 W d b)/\(a.length<=maxLen/\∀ i,(a.getD i ByteArray.empty).size<=maxLen)/\y8 W c a:=by
 obtain ⟨n,hl,hf⟩:=Qe underlying24 h;rw [cells24] at hl;obtain ⟨s,g,rfl⟩:=SH hl;obtain ⟨k,h0⟩:=hf 0 _ rfl
 replace h0:Tr enc W n 22 (List.take (prog.cellsOf 22) [s,g]) k:=h0
 rw [cells22] at h0;obtain ⟨j,h1⟩:=hf 1 _ rfl
 replace h1:Tr enc W n 22 (List.take (prog.cellsOf 22) [g]) j:=h1
 rw [cells22] at h1;obtain ⟨d,f,b,e0,r,p,m⟩:=Xw h0;obtain ⟨c,e,a,e1,q,o,l⟩:=Xw h1;simp at e0 e1;exact ⟨d,f,b,c,e,a,by rw [e0,e1],⟨⟨r,p⟩,m⟩,⟨q,o⟩,l⟩
theorem XH (h:Tr enc W fuel 27 cs y):∃ a k is,cs=[.slice a is.length k]/\is.length<=maxLen/\(∀ i,(is.getD i T.P8).le maxLen)/\T.J6 W a is:=by
 obtain ⟨n,hl,hf⟩:=Qe underlying27 h;rw [cells27] at hl;obtain ⟨c,rfl⟩:=YX hl;obtain ⟨b,h0⟩:=hf 0 _ rfl
 replace h0:Tr enc W n 25 (List.take (prog.cellsOf 25) [c]) b:=h0
 rw [cells25] at h0;exact iU h0
theorem sH (h:Tr enc W fuel 30 cs y):∃ (s:St) (e a:OA) (v b:Nat),cs=[.int .i64 s.wd,.slice e s.ts.length v,.slice a s.rs.length b]/\s.le maxLen/\Zg W e a s:=by
 obtain ⟨n,hl,hf⟩:=Qe underlying30 h;rw [cells30] at hl;obtain ⟨w,d,c2,rfl⟩:=jE hl;obtain ⟨i,h0⟩:=hf 0 _ rfl
 replace h0:Tr enc W n 3 (List.take (prog.cellsOf 3) [w,d,c2]) i:=h0
 rw [cells3] at h0;obtain ⟨g,h1⟩:=hf 1 _ rfl
 replace h1:Tr enc W n 22 (List.take (prog.cellsOf 22) [d,c2]) g:=h1
 rw [cells22] at h1;obtain ⟨f,h2⟩:=hf 2 _ rfl
 replace h2:Tr enc W n 28 (List.take (prog.cellsOf 28) [c2]) f:=h2
 rw [cells28] at h2;obtain ⟨j,e0,_,_⟩:=Fq underlying3 h0;simp at e0;obtain ⟨a,b,t,e1,q,o,l⟩:=Xw h1;obtain ⟨a2,u,r,c,p,m,k⟩:=openedR h2;simp at e1 c;exact ⟨⟨j,t,r⟩,a,a2,b,u,by rw [e0,e1,c],⟨⟨q,o⟩,p,m⟩,l,k⟩
theorem RN (h:Tr enc W fuel 35 cs y):∃ b q,cs=bsV b q/\Bo b maxLen/\Dn W b q:=by
 obtain ⟨n,hl,hf⟩:=Qe underlying35 h;rw [cells35] at hl;obtain ⟨c0,A,c2,c3,c4,c5,c6,c7,c8,c9,c10,c11,c12,c13,c14,rfl⟩:=oU hl;obtain ⟨O,h0⟩:=hf 0 _ rfl
 replace h0:Tr enc W n 3 (List.take (prog.cellsOf 3) [c0,A,c2,c3,c4,c5,c6,c7,c8,c9,c10,c11,c12,c13,c14]) O:=h0
 rw [cells3] at h0;obtain ⟨N,h1⟩:=hf 1 _ rfl
 replace h1:Tr enc W n 4 (List.take (prog.cellsOf 4) [A,c2,c3,c4,c5,c6,c7,c8,c9,c10,c11,c12,c13,c14]) N:=h1
 rw [cells4] at h1;obtain ⟨J,h2⟩:=hf 2 _ rfl
 replace h2:Tr enc W n 3 (List.take (prog.cellsOf 3) [c2,c3,c4,c5,c6,c7,c8,c9,c10,c11,c12,c13,c14]) J:=h2
 rw [cells3] at h2;obtain ⟨I,i⟩:=hf 3 _ rfl
 replace i:Tr enc W n 3 (List.take (prog.cellsOf 3) [c3,c4,c5,c6,c7,c8,c9,c10,c11,c12,c13,c14]) I:=i
 rw [cells3] at i;obtain ⟨H,g⟩:=hf 4 _ rfl
 replace g:Tr enc W n 3 (List.take (prog.cellsOf 3) [c4,c5,c6,c7,c8,c9,c10,c11,c12,c13,c14]) H:=g
 rw [cells3] at g;obtain ⟨F,f⟩:=hf 5 _ rfl
 replace f:Tr enc W n 24 (List.take (prog.cellsOf 24) [c5,c6,c7,c8,c9,c10,c11,c12,c13,c14]) F:=f
 rw [cells24] at f;obtain ⟨E,e⟩:=hf 6 _ rfl
 replace e:Tr enc W n 27 (List.take (prog.cellsOf 27) [c7,c8,c9,c10,c11,c12,c13,c14]) E:=e
 rw [cells27] at e;obtain ⟨D,d⟩:=hf 7 _ rfl
 replace d:Tr enc W n 30 (List.take (prog.cellsOf 30) [c8,c9,c10,c11,c12,c13,c14]) D:=d
 rw [cells30] at d;obtain ⟨C,c⟩:=hf 8 _ rfl
 replace c:Tr enc W n 31 (List.take (prog.cellsOf 31) [c11,c12,c13,c14]) C:=c
 rw [cells31] at c;obtain ⟨B,a⟩:=hf 9 _ rfl
 replace a:Tr enc W n 22 (List.take (prog.cellsOf 22) [c12,c13,c14]) B:=a
 rw [cells22] at a;obtain ⟨L,k⟩:=hf 10 _ rfl
 replace k:Tr enc W n 32 (List.take (prog.cellsOf 32) [c13,c14]) L:=k
 rw [cells32] at k;obtain ⟨K,j⟩:=hf 11 _ rfl
 replace j:Tr enc W n 33 (List.take (prog.cellsOf 33) [c14]) K:=j
 rw [cells33] at j;obtain ⟨V,e0,_,_⟩:=Fq underlying3 h0;simp at e0;obtain ⟨U,e1,_⟩:=WH underlying4 h1;simp at e1;obtain ⟨S,w,_,_⟩:=Fq underlying3 h2;simp at w;obtain ⟨R,v,_,_⟩:=Fq underlying3 i;simp at v;obtain ⟨Q,u,_,_⟩:=Fq underlying3 g;simp at u;obtain ⟨la0,lk0,ll0,la1,lk1,ll1,p,o,m⟩:=MN f;obtain ⟨a6,k6,l6,t,p6,q6,Z⟩:=XH e;obtain ⟨P,a7,b7,k7,m7,l,p7,q7⟩:=sH d;obtain ⟨a8,k8,l8,s,p8,_,Y⟩:=uU c;obtain ⟨a9,k9,l9,r,p9,q9,X⟩:=Xw a;obtain ⟨a10,k10,l10,z,p10,q10,r10⟩:=QV k;obtain ⟨a11,k11,l11,x,p11,q11,r11⟩:=uS j;simp at p t l s r z x;refine ⟨⟨V,U,S,R,Q,ll0,ll1,l6,P,l8,l9,l10,l11⟩,⟨la0,lk0,la1,lk1,a6,k6,a7,k7,b7,m7,a8,k8,a9,k9,a10,k10,a11,k11⟩,?_,⟨o.1.1,o.1.2,m.1.1,m.1.2,p6,q6,p7,p8,p9,q9,p10,q10,p11,q11⟩,o.2,m.2,Z,q7,Y,X,r10,r11⟩;rw [e0,e1,w,v,u,p.1,p.2,t,l.1,l.2.1,l.2.2,s,r,z,x]
end
def cell1 : DataW Unit → Value
  | .lit (.int k n) => .int k n
  | .lit (.bool b) => .bool b
  | .lit (.string l) => .string ⟨l.toArray⟩
  | _ => .bool false
def kX : DataW Unit → List Value
  | .agg es => es.map cell1
  | d => [cell1 d]
def cells2 : DataW Unit → Array Value
  | .agg ds => (ds.flatMap kX).toArray
  | _ => #[]
def Jt (g : Nat) (t : Array Value) (w : World) : World := { w with heap := w.heap.modify g fun
      | .cells _ ty frozen => .cells t ty frozen
      | o => o }
end Go.Proofs.YtkdbheidpdjimaaGreatDoor
namespace Go.Proofs.YtkdbheidpdjimaaGreatDoor
open Proofs.Tryz Go.RowKit
def Fit (j:Jb) (x:Rn):Prop:=x.nm=j.nm/\x.md=1/\x.wt=⟨#[]⟩
theorem a1f (x:Rn) (j:Jb) (J:Nat) (b:OA) (a:Nat) (w:World) (f:w.cell? ⟨J,0,none⟩=some (.string j.nm)) (m:J<w.heap.size):
 Calls prog 140 #[.agg #[.string x.nm,.int .i64 x.md,.string x.wt,.slice b x.ls.length a,.int .i64 x.cd,.string x.tx],.pointer (some ⟨J,0,none⟩)] w fun e w'=>Rb (Fit j x) e/\Bw w w':=by
 go_enter func140,ntmps140
 go_upto_region 1 with fail
 have l:=U0 (G6 w [vS x.nm,vI x.md,vS x.wt,vL b x.ls.length a,vI x.cd,vS x.tx] 115);have d:=U0 (o7 (w:=w) (o:=.cells #[vS x.nm,vI x.md,vS x.wt,vL b x.ls.length a,vI x.cd,vS x.tx] 115))
 replace f:=(d.out.cell (p:=(aA J 0)) m).trans f
 generalize w.alloc (.cells #[vS x.nm,vI x.md,vS x.wt,vL b x.ls.length a,vI x.cd,vS x.tx] 115)=V at*;have i:=l.out.cell 0;simp only [@gz Value] at i;by_cases h:x.nm=j.nm;rotate_left
 · have q:Hid (¬ Fit j x):=fun k=>h k.1;have z:(x.nm.toList==j.nm.toList)=false:=n_.2 (Zb h);go_wp2;go_ret;exact ⟨G5 q.out,d.out⟩
 have z:(x.nm.toList==j.nm.toList)=true:=by rw [h];exact beq_self_eq_true _
 have r:=U0 h;clear h
 go_wp2_with (refine mD rfl 115 _ rfl (B:=w.heap.size) rfl l.out underlying115 rfl J3 ?_)
 refine (c141 x b a V).mono ?_;rintro e w1 ⟨⟨n,rfl,c⟩,g⟩;have s:Hid (n=true↔Fit j x):=⟨fun h=>⟨r.out,c.1 h⟩,fun h=>c.2 h.2⟩;have t:=U0 (G7 d.out g);clear c g z i;go_wp2;go_ret;exact ⟨⟨_,rfl,s.out⟩,t.out⟩
theorem c201 (a:OA) (D:Nat) (rn:List Rn) (j:Jb) (J:Nat) (w:World) (hl:rn.length<=1048576) (n:Dj w a rn) (g:w.cell? ⟨J,0,none⟩=some (.string j.nm)) (o:J<w.heap.size):
 Calls prog 201 #[.slice a rn.length D,.func (.func 140) #[] #[.pointer (some ⟨J,0,none⟩)]] w fun e w'=>(∃ r:Int,e=.returned (.int .i64 r)/\(0<=r↔∃ i,i<rn.length/\Fit j (rn.getD i Aa)))/\Bw w w':=by
 obtain ⟨F,off,hc⟩:=P_ n;have O:=U0 hc;have K:=U0 g;clear n hc g;go_enter func201,ntmps201
 go_wp2_with fail
 go_loopw [8] (fun i wr=>∃ k:Nat,k<=rn.length/\i=.int .i64 k/\Hid (∀ t,t<k->¬ Fit j (rn.getD t Aa))/\Below w.heap.size w wr) (fun i _=>rn.length - (intOf i).toNat)
 case atStart=>exact ⟨0,D5 _,rfl,fun j h=>absurd h (o9 _),Z4 _ _⟩
 case round=>
  obtain ⟨k,hk,rfl,hd,b⟩:=hrel;by_cases d:k<rn.length;rotate_left
  · obtain rfl:k=rn.length:=O0;have f:Hid ((0:Int)<= -1↔∃ i,i<rn.length/\Fit j (rn.getD i Aa)):=⟨fun h=>O0,fun ⟨i,h1,h2⟩=>absurd h2 (hd.out i h1)⟩;go_wp2;go_ret;exact ⟨⟨_,rfl,f.out⟩,b⟩
  obtain ⟨ha,z,l⟩:=Nc O.out d;subst ha;obtain ⟨u,s,q,C⟩:=(l k d).below z b;have f:Hid (Fit j (rn.getD k Aa)->((0:Int)<=(k:Int)↔∃ i,i<rn.length/\Fit j (rn.getD i Aa))):=fun h=>⟨fun _=>⟨k,d,h⟩,fun _=>O0⟩;have N:Hid (¬ Fit j (rn.getD k Aa)->∀ t,t<k+1->¬ Fit j (rn.getD t Aa)):=fun y t ht=>by
   rcases o8 t k with h | h
   · exact hd.out t h
   · obtain rfl:t=k:=O0;exact y
  generalize rn.getD k Aa=x at*;have P:=U0 q;have I:=U0 ((b.cell (p:=(aA J 0)) o).trans K.out);have A:=m_ o b.size;clear l hd q C
  go_wp2_with (refine Z9 rfl (Y8 115 _ rfl (B:=F) (j:=off+k*6) (cs:=[vS x.nm,vI x.md,vS x.wt,vL u x.ls.length s,vI x.cd,vS x.tx]) rfl P.out underlying115 rfl J3) ?_)
  refine (a1f x j J u s wr I.out A).mono ?_;rintro e w1 ⟨⟨E,rfl,c⟩,m⟩;have v:=U0 (G7 b m);clear m
  cases E with
  | true=>
   have H:=U0 (f.out (c.1 rfl));clear c;go_wp2;go_ret;exact ⟨⟨_,rfl,H.out⟩,v.out⟩
  | false=>
   have L:=U0 (N.out (fun h=>by have:=c.2 h;cases this));clear c;go_wp2;go_roundw
   case rel=>exact ⟨k+1,O0,by go_num,L,v.out⟩
   case measure=>simp [intOf];omega
theorem c139 (a:OA) (f:Nat) (rn:List Rn) (j:Jb) (J:Nat) (w:World) (hl:rn.length<=1048576) (d:Dj w a rn) (b:w.cell? ⟨J,0,none⟩=some (.string j.nm)) (m:J<w.heap.size):
 Calls prog 139 #[.slice a rn.length f,.func (.func 140) #[] #[.pointer (some ⟨J,0,none⟩)]] w fun e w'=>Rb (∃ i,i<rn.length/\Fit j (rn.getD i Aa)) e/\Bw w w':=by
 have hc:=c201 a f rn j J w hl d b m;clear d b;go_enter func139,ntmps139
 go_wp2_with fail
 refine hc.mono ?_;rintro e w1 ⟨⟨r,rfl,hr⟩,c⟩;have l:=U0 c;have g:=U0 hr;clear hc c hr;by_cases h:0<=r
 · have n:=U0 (g.out.1 h);go_wp2;go_ret;exact ⟨C_ n.out,l.out⟩
 have o:=U0 (fun k=>h (g.out.2 k));have z:r<0:=O0;clear h;go_wp2;go_ret;exact ⟨⟨_,rfl,⟨fun h=>by simp at h;omega,fun h=>absurd h o.out⟩⟩,l.out⟩
def Ew (b:Bs) (j:Jb):Prop:=(∃ i,i<b.rn.length/\Fit j (b.rn.getD i Aa))/\(1<=j.wk/\j.wk<=b.hd.length)/\(b.now<=j.un/\j.un<=b.now+6)
theorem c86 (b:Bs) (q:Ba) (j:Jb) (w:World) (hl:Bo b 1048576) (hn1:0<=b.now) (hn2:b.now<=1000000) (s:Dj w q.na b.rn):
 Calls prog 86 #[.agg (bsV b q).toArray,.agg #[.string j.nm,.int .i64 j.wk,.int .i64 j.un]] w fun e w'=>Rb (Ew b j) e/\Bw w w':=by
 have r:IntKind.i64.wrap (b.now+6)=b.now+6:=by rw [MH];omega
 have hhl:=hl.hl;have z:=hl.nl;have C:=U0 s;clear s hl;go_enter func86,ntmps86
 go_upto_region 1 with fail
 have d:=U0 (Oa (G6 w (bsV b q) 48) (.cells #[vS j.nm,vI j.wk,vI j.un] 120));have c:Hid (Cl ((w.alloc (.cells (bsV b q).toArray 48)).alloc (.cells #[vS j.nm,vI j.wk,vI j.un] 120)) (w.heap.size+1) 120 [vS j.nm,vI j.wk,vI j.un]):=by show Cl _ _ _ _;have h:=G6 (w.alloc (.cells (bsV b q).toArray 48)) [vS j.nm,vI j.wk,vI j.un] 120;simpa using h
 have p:Hid (Bw w ((w.alloc (.cells (bsV b q).toArray 48)).alloc (.cells #[vS j.nm,vI j.wk,vI j.un] 120))):=o7.alloc I4 _;generalize (w.alloc (.cells (bsV b q).toArray 48)).alloc (.cells #[vS j.nm,vI j.wk,vI j.un] 120)=V at*;have a2:=d.out.cell 2;have n:=d.out.cell 11;have u:=d.out.cell 13;simp only [@gz Value] at a2 n u;have o:=c.out.cell 0;have m:=c.out.cell 1;have l:=c.out.cell 2;simp only [@gz Value] at o m l
 go_wp2_with fail
 refine (c139 q.na q.nc b.rn j (w.heap.size+1) V z (rf C.out p.out) o c.out.lt).mono ?_;rintro e w1 ⟨⟨A,rfl,g⟩,i⟩;have y:=U0 (d.out.below i d.out.lt);have x:=U0 (c.out.below i c.out.lt);have f:=U0 (G7 p.out i);clear i a2 n u o m l d c p;have a2:=y.out.cell 2;have n:=y.out.cell 11;simp only [@gz Value] at a2 n;have m:=x.out.cell 1;have l:=x.out.cell 2;simp only [@gz Value] at m l
 cases A with
 | false=>
  have a:Hid (¬ Ew b j):=fun h=>by have:=g.2 h.1;cases this
  clear g;go_wp2;go_ret;exact ⟨G5 a.out,f.out⟩
 | true=>
 have B:=U0 (g.1 rfl);clear g;by_cases h1:1<=j.wk;rotate_left
 · have a:Hid (¬ Ew b j):=fun h=>h1 h.2.1.1;go_wp2;go_ret;exact ⟨G5 a.out,f.out⟩
 by_cases h2:j.wk<=b.hd.length;rotate_left
 · have a:Hid (¬ Ew b j):=fun h=>h2 h.2.1.2;go_wp2;go_ret;exact ⟨G5 a.out,f.out⟩
 by_cases t:b.now<=j.un;rotate_left
 · have a:Hid (¬ Ew b j):=fun h=>t h.2.2.1;go_wp2;go_ret;exact ⟨G5 a.out,f.out⟩
 by_cases k:j.un<=b.now+6
 · have v:Hid (Ew b j):=⟨B.out,⟨h1,h2⟩,t,k⟩;go_wp2;go_ret;exact ⟨by first | exact C_ v.out | (rw [r,y_ k];exact C_ v.out),f.out⟩
 have a:Hid (¬ Ew b j):=fun h=>k h.2.2.2;go_wp2;go_ret;exact ⟨by first | exact G5 a.out | (rw [r,P9 k];exact G5 a.out) | exact ⟨_,rfl,⟨fun h=>by simp at h;omega,fun h=>absurd h a.out⟩⟩,f.out⟩
def Yk (j x:Jb):Prop:=x.wk=j.wk\/Op.bytesLess x.nm.toList j.nm.toList=false
theorem c85 (x j:Jb) (J:Nat) (w:World) (h0:w.cell? ⟨J,0,none⟩=some (.string j.nm)) (h1:w.cell? ⟨J,1,none⟩=some (.int .i64 j.wk)) (d:J<w.heap.size):
 Calls prog 85 #[.agg #[.string x.nm,.int .i64 x.wk,.int .i64 x.un],.pointer (some ⟨J,0,none⟩)] w fun e w'=>Rb (Yk j x) e/\Bw w w':=by
 go_enter func85,ntmps85
 go_upto_region 1 with fail
 have g:=U0 (G6 w [vS x.nm,vI x.wk,vI x.un] 120);have a:=U0 (o7 (w:=w) (o:=.cells #[vS x.nm,vI x.wk,vI x.un] 120))
 replace h0:=(a.out.cell (p:=(aA J 0)) d).trans h0
 replace h1:=(a.out.cell (p:=(aA J 1)) d).trans h1
 generalize w.alloc (.cells #[vS x.nm,vI x.wk,vI x.un] 120)=V at*;have i:=g.out.cell 0;have f:=g.out.cell 1;simp only [@gz Value] at i f;by_cases h:x.wk=j.wk
 · have c:Hid (Yk j x):=.inl h;rw [h] at f;go_wp2;go_ret;exact ⟨C_ c.out,a.out⟩
 have z:=n_.2 h;by_cases b:Op.bytesLess x.nm.toList j.nm.toList=true
 · have l:Hid (¬ Yk j x):=fun k=>by
    rcases k with k | k
    · exact h k
    rw [b] at k;cases k
   go_wp2;go_ret;exact ⟨G5 l.out,a.out⟩
 have c:Hid (Yk j x):=.inr (Uh.2 b);have z2:=Uh.2 b;go_wp2;go_ret;exact ⟨C_ c.out,a.out⟩
theorem c138 (a:OA) (v:Nat) (rn:List Jb) (j:Jb) (J:Nat) (w:World) (hl:rn.length<=1048576) (o:Uk w a rn) (h0:w.cell? ⟨J,0,none⟩=some (.string j.nm)) (h1:w.cell? ⟨J,1,none⟩=some (.int .i64 j.wk)) (l:J<w.heap.size):
 Calls prog 138 #[.slice a rn.length v,.func (.func 85) #[] #[.pointer (some ⟨J,0,none⟩)]] w fun e w'=>(∃ r:Int,e=.returned (.int .i64 r)/\(0<=r↔∃ i,i<rn.length/\Yk j (rn.getD i Oc)))/\Bw w w':=by
 obtain ⟨bb,off,hc⟩:=P_ o;have H:=U0 hc;have D:=U0 h0;have B:=U0 h1;clear o hc h0 h1;go_enter func138,ntmps138
 go_wp2_with fail
 go_loopw [8] (fun i wr=>∃ k:Nat,k<=rn.length/\i=.int .i64 k/\Hid (∀ t,t<k->¬ Yk j (rn.getD t Oc))/\Below w.heap.size w wr) (fun i _=>rn.length - (intOf i).toNat)
 case atStart=>exact ⟨0,D5 _,rfl,fun j h=>absurd h (o9 _),Z4 _ _⟩
 case round=>
  obtain ⟨k,hk,rfl,hd,b⟩:=hrel;by_cases c:k<rn.length;rotate_left
  · obtain rfl:k=rn.length:=O0;have m:Hid ((0:Int)<= -1↔∃ i,i<rn.length/\Yk j (rn.getD i Oc)):=⟨fun h=>O0,fun ⟨i,h1,h2⟩=>absurd h2 (hd.out i h1)⟩;go_wp2;go_ret;exact ⟨⟨_,rfl,m.out⟩,b⟩
  obtain ⟨ha,g,d⟩:=Nc H.out c;subst ha;have g0:=((d k c).below g b) 0 _ rfl;have g1:=((d k c).below g b) 1 _ rfl;have g2:=((d k c).below g b) 2 _ rfl;dsimp only [Nat.add_zero] at g0;have m:Hid (Yk j (rn.getD k Oc)->((0:Int)<=(k:Int)↔∃ i,i<rn.length/\Yk j (rn.getD i Oc))):=fun h=>⟨fun _=>⟨k,c,h⟩,fun _=>O0⟩;have F:Hid (¬ Yk j (rn.getD k Oc)->∀ t,t<k+1->¬ Yk j (rn.getD t Oc)):=fun s t ht=>by
   rcases o8 t k with h | h
   · exact hd.out t h
   · obtain rfl:t=k:=O0;exact s
  generalize rn.getD k Oc=x at*;have C:=U0 ((b.cell (p:=(aA J 0)) l).trans D.out);have A:=U0 ((b.cell (p:=(aA J 1)) l).trans B.out);have u:=m_ l b.size;clear d hd
  go_wp2_with fail
  refine (c85 x j J wr C.out A.out u).mono ?_;rintro e w1 ⟨⟨y,rfl,f⟩,n⟩;have q:=U0 (G7 b n);clear n g0 g1 g2
  cases y with
  | true=>
   have z:=U0 (m.out (f.1 rfl));clear f;go_wp2;go_ret;exact ⟨⟨_,rfl,z.out⟩,q.out⟩
  | false=>
   have E:=U0 (F.out (fun h=>by have:=f.2 h;cases this));clear f;go_wp2;go_roundw
   case rel=>exact ⟨k+1,O0,by go_num,E,q.out⟩
   case measure=>simp [intOf];omega
theorem c84 (a:OA) (d:Nat) (rn:List Jb) (j:Jb) (J:Nat) (w:World) (hl:rn.length<=1048576) (c:Uk w a rn) (h0:w.cell? ⟨J,0,none⟩=some (.string j.nm)) (h1:w.cell? ⟨J,1,none⟩=some (.int .i64 j.wk)) (l:J<w.heap.size):
 Calls prog 84 #[.slice a rn.length d,.func (.func 85) #[] #[.pointer (some ⟨J,0,none⟩)]] w fun e w'=>Rb (∃ i,i<rn.length/\Yk j (rn.getD i Oc)) e/\Bw w w':=by
 have hc:=c138 a d rn j J w hl c h0 h1 l;clear c h0 h1;go_enter func84,ntmps84
 go_wp2_with fail
 refine hc.mono ?_;rintro e w1 ⟨⟨r,rfl,hr⟩,b⟩;have g:=U0 b;have f:=U0 hr;clear hc b hr;by_cases h:0<=r
 · have m:=U0 (f.out.1 h);go_wp2;go_ret;exact ⟨C_ m.out,g.out⟩
 have n:=U0 (fun k=>h (f.out.2 k));have z:r<0:=O0;clear h;go_wp2;go_ret;exact ⟨⟨_,rfl,⟨fun h=>by simp at h;omega,fun h=>absurd h n.out⟩⟩,g.out⟩
def SY (b:Bs):Prop:=∀ i,i<b.jb.length->(∀ t,t<i->¬ Yk (b.jb.getD i Oc) (b.jb.getD t Oc))/\Ew b (b.jb.getD i Oc)
theorem nP {w:World} {b off k:Nat} {l:List Jb} (hk:k<=l.length) (hl:b<w.heap.size) (h:∀ i,i<l.length->Bc w b (off+i*3) (dB (l.getD i Oc))):Uk w (some ⟨b,off,none⟩) (l.take k):=.inr ⟨b,off,rfl,hl,fun i a=>by
 have h1:i<l.length:=by simp at a;omega
 have h2:i<k:=by simp at a;omega
 have e:(l.take k).getD i Oc=l.getD i Oc:=by simp [List.getD,h1,h2]
 rw [e];exact h i h1⟩
theorem c42 (b:Bs) (q:Ba) (w:World) (hl:Bo b 1048576) (hcp:b.jb.length<=q.jc) (hn1:0<=b.now) (hn2:b.now<=1000000) (A:Dn w b q):
 Calls prog 42 #[.agg #[.int .i64 b.wd,.bool b.up,.int .i64 b.now,.int .i64 b.ep,.int .i64 b.ed,.slice q.sa b.sf.length q.sc,.slice q.la b.lo.length q.lc,.slice q.fa b.fs.length q.fc,.int .i64 b.s.wd,.slice q.ta b.s.ts.length q.tc,.slice q.ra b.s.rs.length q.rc,.slice q.ha b.hd.length q.hc,.slice q.oa b.rt.length q.oc,.slice q.na b.rn.length q.nc,.slice q.ja b.jb.length q.jc]] w fun e w'=>Rb (SY b) e/\Bw w w':=by
 have HA:=U0 A;have HL0:=U0 hl;have hjl:=hl.jl;obtain ⟨Q,P,hc⟩:=P_ A.jb;have HC:=U0 hc;clear A hl hc;go_enter func42,ntmps42
 go_upto_region 1 with fail
 have C0:=U0 (G6 w [vI b.wd,.bool b.up,vI b.now,vI b.ep,vI b.ed,vL q.sa b.sf.length q.sc,vL q.la b.lo.length q.lc,vL q.fa b.fs.length q.fc,vI b.s.wd,vL q.ta b.s.ts.length q.tc,vL q.ra b.s.rs.length q.rc,vL q.ha b.hd.length q.hc,vL q.oa b.rt.length q.oc,vL q.na b.rn.length q.nc,vL q.ja b.jb.length q.jc] 48);have B0:=U0 (o7 (w:=w) (o:=.cells #[vI b.wd,.bool b.up,vI b.now,vI b.ep,vI b.ed,vL q.sa b.sf.length q.sc,vL q.la b.lo.length q.lc,vL q.fa b.fs.length q.fc,vI b.s.wd,vL q.ta b.s.ts.length q.tc,vL q.ra b.s.rs.length q.rc,vL q.ha b.hd.length q.hc,vL q.oa b.rt.length q.oc,vL q.na b.rn.length q.nc,vL q.ja b.jb.length q.jc] 48));generalize w.alloc (.cells #[vI b.wd,.bool b.up,vI b.now,vI b.ep,vI b.ed,vL q.sa b.sf.length q.sc,vL q.la b.lo.length q.lc,vL q.fa b.fs.length q.fc,vI b.s.wd,vL q.ta b.s.ts.length q.tc,vL q.ra b.s.rs.length q.rc,vL q.ha b.hd.length q.hc,vL q.oa b.rt.length q.oc,vL q.na b.rn.length q.nc,vL q.ja b.jb.length q.jc] 48)=V0 at*;have a:=C0.out.cell 14;simp only [@gz Value] at a;by_cases v:b.jb.length=0
 · have H:Hid (SY b):=fun i r=>absurd r O0;rw [v] at a
   go_wp2_with fail
   go_loop [9] (fun i=>i=.int .i64 0) (fun _=>0)
   case atStart=>rfl
   case round=>
    obtain rfl:=hrel;go_wp2;go_ret;exact ⟨C_ H.out,B0.out⟩
 rcases HC.out with hss | ⟨ha,y,R⟩
 · rw [hss] at v;exact absurd rfl v
 have p:Hid (∀ u,Bw w u->∀ t,t<b.jb.length->Bc u Q (P+t*3) (dB (b.jb.getD t Oc))):=fun u hu t ht=>(R t ht).below y hu;rw [ha] at a;have Z:=U0 ha;clear ha R
 go_wp2_with fail
 go_loopw [9] (fun i wr=>∃ k:Nat,k<=b.jb.length/\i=.int .i64 k/\Hid (∀ i,i<k->(∀ t,t<i->¬ Yk (b.jb.getD i Oc) (b.jb.getD t Oc))/\Ew b (b.jb.getD i Oc))/\Hid (Cl wr w.heap.size 48 [.int .i64 b.wd,.bool b.up,.int .i64 b.now,.int .i64 b.ep,.int .i64 b.ed,.slice q.sa b.sf.length q.sc,.slice q.la b.lo.length q.lc,.slice q.fa b.fs.length q.fc,.int .i64 b.s.wd,.slice q.ta b.s.ts.length q.tc,.slice q.ra b.s.rs.length q.rc,.slice q.ha b.hd.length q.hc,.slice q.oa b.rt.length q.oc,.slice q.na b.rn.length q.nc,.slice q.ja b.jb.length q.jc])/\Below w.heap.size w wr) (fun i _=>b.jb.length - (intOf i).toNat)
 case atStart=>exact ⟨0,D5 _,rfl,fun j h=>absurd h (o9 _),C0,B0.out⟩
 case round=>
  obtain ⟨k,g,rfl,hd,K,S⟩:=hrel;have f:=U0 S;clear S;clear a;have a:=K.out.cell 14;simp only [@gz Value] at a;rw [Z.out] at a;by_cases m:k<b.jb.length;rotate_left
  · obtain rfl:k=b.jb.length:=O0;have H:Hid (SY b):=hd.out;go_wp2;go_ret;exact ⟨C_ H.out,f.out⟩
  have a3r:=m_ y f.out.size;have g0:=p.out wr f.out k m 0 _ rfl;have g1:=p.out wr f.out k m 1 _ rfl;have g2:=p.out wr f.out k m 2 _ rfl;dsimp only [Nat.add_zero] at g0;have X:Hid (¬ ((∀ t,t<k->¬ Yk (b.jb.getD k Oc) (b.jb.getD t Oc))/\Ew b (b.jb.getD k Oc))->¬ SY b):=fun d h=>d (h k m);have HD:Hid (((∀ t,t<k->¬ Yk (b.jb.getD k Oc) (b.jb.getD t Oc))/\Ew b (b.jb.getD k Oc))->∀ i,i<k+1->(∀ t,t<i->¬ Yk (b.jb.getD i Oc) (b.jb.getD t Oc))/\Ew b (b.jb.getD i Oc)):=fun d j hj=>by
   rcases o8 j k with h | h
   · exact hd.out j h
   · obtain rfl:j=k:=O0;exact d
  have W:Hid (∀ j:Jb,(∃ i,i<(b.jb.take k).length/\Yk j ((b.jb.take k).getD i Oc))↔¬ ∀ t,t<k->¬ Yk j (b.jb.getD t Oc)):=fun j=>by
   constructor
   · rintro ⟨i,r,h⟩ d;have h2:i<k:=by simp at r;omega
     have h1:i<b.jb.length:=O0;rw [show (b.jb.take k).getD i Oc=b.jb.getD i Oc by simp [List.getD,h1,h2]] at h;exact d i h2 h
   · intro d;obtain ⟨t,h⟩:=Classical.not_forall.1 d;obtain ⟨h2,h⟩:=Classical.not_imp.1 h;have h1:t<b.jb.length:=O0;refine ⟨t,U7,?_⟩;rw [show (b.jb.take k).getD t Oc=b.jb.getD t Oc by simp [List.getD,h1,h2]];exact KH.1 h
  generalize b.jb.getD k Oc=j at*;clear hd
  go_upto_region 4 with fail
  have l:=U0 (G6 wr [vS j.nm,vI j.wk,vI j.un] 120);have BV:=U0 (o7 (w:=wr) (o:=.cells #[vS j.nm,vI j.wk,vI j.un] 120));generalize wr.alloc (.cells #[vS j.nm,vI j.wk,vI j.un] 120)=V at*;have N:=U0 (K.out.below BV.out K.out.lt);have I:=U0 (G7 f.out BV.out);clear g0 g1 g2 a;have a:=N.out.cell 14;simp only [@gz Value] at a;have D:=l.out.cell 0;have C:=l.out.cell 1;simp only [@gz Value] at D C;rw [Z.out] at a;have hkc:k<=q.jc:=O0;have x:=c84 (some (aA Q P)) q.jc (b.jb.take k) j wr.heap.size V (by rw [Ro g];omega) (nP g (m_ y I.out.size) (p.out V I.out)) D C l.out.lt;rw [Ro g] at x;have Y:=U0 x;clear x
  go_wp2_with fail
  refine Y.out.mono ?_;rintro e w1 ⟨⟨E,rfl,c⟩,n⟩;have L:=U0 (N.out.below n N.out.lt);have D2:=U0 (l.out.below n l.out.lt);have F:=U0 (G7 I.out n);clear n a D C Y
  cases E with
  | true=>
   have J:=U0 (X.out (fun h=>(W.out j).1 (by rw [Ro g];exact c.1 rfl) h.1));clear c;go_wp2;go_ret;exact ⟨G5 J.out,F.out⟩
  | false=>
  have HO:Hid (∀ t,t<k->¬ Yk j (b.jb.getD t Oc)):=by
   refine KH.1 fun h=>?_;have:=c.2 (by have O:=(W.out j).2 h;rw [Ro g] at O;exact O);cases this
  clear c
  go_wp2_with (first | (refine mD rfl 48 _ rfl (B:=w.heap.size) rfl L.out underlying48 rfl J3 ?_) | (refine mD rfl 120 _ rfl (B:=wr.heap.size) rfl D2.out underlying120 rfl J3 ?_))
  refine (c86 b q j w1 HL0.out hn1 hn2 (rf HA.out.rn F.out)).mono ?_;rintro e w2 ⟨⟨E,rfl,c⟩,z⟩;have C3:=U0 (L.out.below z L.out.lt);have U:=U0 (G7 F.out z);clear z
  cases E with
  | false=>
   have J:=U0 (X.out (fun h=>by have:=c.2 h.2;cases this));clear c;go_wp2;go_ret;exact ⟨G5 J.out,U.out⟩
  | true=>
   have HD1:=U0 (HD.out ⟨HO.out,c.1 rfl⟩);clear c;go_wp2;go_roundw
   case rel=>exact ⟨k+1,O0,by go_num,HD1,C3,U.out⟩
   case measure=>simp [intOf];omega
