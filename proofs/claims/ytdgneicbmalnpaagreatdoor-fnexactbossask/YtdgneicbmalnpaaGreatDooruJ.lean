import Derived.ProofKit
import Derived.OpenShut
import Derived.ShutString
import Derived.Deep.Strs
import Derived.OpenVars
import Derived.HandedShaped
import Derived.Shelf.Vars
import Derived.Deep.DeepWitnessRowRef
import Derived.SevenTiedAt
import Derived.LaidMore
import Derived.LaidOnce
import Derived.Test.YtdgneicbmalnpaaGreatDoorwL
import Derived.Test.YtdgneicbmalnpaaGreatDooruD
set_option linter.all false
set_option maxHeartbeats 0
set_option maxRecDepth 99999
open Go.Value renaming slice->Sa,string->Sb,int->Sc,pointer->Sd
open Go.IntKind renaming i64->Se
open Go.Ending renaming returned->Sf
open Go.Obj renaming cells->Sg
namespace Go.Proofs.YtdgneicbmalnpaaGreatDoor
open Proofs.Tryz Go.ChangeShapes Go.WideShapes Go.ChangeAt Go.RowKit
variable{H α:Type}{enc:TypeId×Value->H}{W:World}{fuel:Nat}{cs:List Value}{y:DataW H×List MemPlace}
theorem cells9:prog.cellsOf 9=1:=Y0
theorem cells4:prog.cellsOf 4=1:=Y0
theorem cells3:prog.cellsOf 3=1:=Y0
theorem cells22:prog.cellsOf 22=1:=Y0
theorem cells25:prog.cellsOf 25=1:=Y0
theorem cells24:prog.cellsOf 24=2:=Y0
theorem cells27:prog.cellsOf 27=1:=Y0
theorem cells28:prog.cellsOf 28=1:=Y0
theorem cells30:prog.cellsOf 30=3:=Y0
theorem cells31:prog.cellsOf 31=1:=Y0
theorem cells32:prog.cellsOf 32=1:=Y0
theorem cells33:prog.cellsOf 33=1:=Y0
theorem cells35:prog.cellsOf 35=15:=Y0
theorem nT:prog.cellsOf 100=1:=Y0
theorem AA:prog.cellsOf 102=2:=Y0
theorem TG:prog.cellsOf 104=6:=Y0
theorem nH:prog.cellsOf 107=3:=Y0
theorem qI:prog.cellsOf 162=2:=Y0
theorem MQ:prog.cellsOf 164=1:=Y0
theorem EH:prog.cellsOf 166=3:=Y0
theorem qH:prog.cellsOf 219=4:=Y0
theorem VI:prog.cellsOf 274=3:=Y0
theorem a0K{l:List α}(h:l.length=1):∃a,l=[a]:=by
 match l,h with
 | [a],_=>exact⟨_,rfl⟩
theorem UJ{l:List α}(h:l.length=2):∃a a1,l=[a,a1]:=by
 match l,h with
 | [a,a1],_=>exact⟨_,_,rfl⟩
theorem VF{l:List α}(h:l.length=3):∃a a1 a2,l=[a,a1,a2]:=by
 match l,h with
 | [a,a1,a2],_=>exact⟨_,_,_,rfl⟩
theorem a2d{l:List α}(h:l.length=4):∃b a1 a2 a,l=[b,a1,a2,a]:=by
 match l,h with
 | [b,a1,a2,a],_=>exact⟨_,_,_,_,rfl⟩
theorem a0M{l:List α}(h:l.length=6):∃d a1 a2 c b a,l=[d,a1,a2,c,b,a]:=by
 match l,h with
 | [d,a1,a2,c,b,a],_=>exact⟨_,_,_,_,_,_,rfl⟩
theorem lW{l:List α}(h:l.length=15):∃o a1 a2 g f e d c b a n m k j i,l=[o,a1,a2,g,f,e,d,c,b,a,n,m,k,j,i]:=by
 match l,h with
 | [o,a1,a2,g,f,e,d,c,b,a,n,m,k,j,i],_=>exact⟨_,_,_,_,_,_,_,_,_,_,_,_,_,_,_,rfl⟩
theorem Bv(b off i:Nat):(⟨b,off,none⟩:Addr).add i=⟨b,off+i,none⟩:=by unfold Addr.add;split<;>simp_all
theorem own:ownKnob prog.godebug=none:=Y0
theorem laidOut:laidOutB prog=true:=Y0
theorem aY(d:α){sl k:TypeId}{n:Nat}(s:prog.underlying sl=some (.slice k))(hc:prog.cellsOf k=n)(z:0<n)(Q:List Value->α->Prop)
 (hQ:∀fuel cs y,DataW.trod enc prog W 0 (λ_=>true) true fuel k cs=some y->∃x,Q cs x) (hf:DataW.trod enc prog W 0 (λ_=>true) true fuel sl cs=some y):
 ∃(a:OA)(cap:Nat)(is:List α),cs=[Sa a is.length cap]/\is.length<=maxLen/\iy W a is d n (λw b o x=>∃c,Q c x/\Bc w b o c):=by
 rcases Go.Deep.open_slice s hf with⟨rfl,_⟩|⟨a,len,cap,m,n',D,Pl,rfl,_,hl,hm,l,_,hx⟩
 ·exact⟨none,0,[],rfl,Y4 _,.inl rfl⟩
 simp only[if_true]at l;subst l;have B:∀i,i<m->∃x:α,∃c,W.cells? 0 (a.add (i*n)) n=some c/\Q c x:=λi g=>by
  obtain⟨c,h1,h2⟩:=hx i g;obtain⟨x,hs⟩:=hQ _ _ _ h2;rw[hc]at h1;exact⟨x,c,h1,hs⟩
 obtain⟨V,hV⟩:=@Go.Deep.choose_lt α ⟨d⟩ m (λi x=>∃c,W.cells? 0 (a.add (i*n)) n=some c/\Q c x) B;have j:((List.range len).map V).length=len:=J4;have A:∀i,i<len->((List.range len).map V).getD i d=V i:=λi g=>by simp[List.getD,g]
 refine⟨some a,m,(List.range len).map V,by rw[j],by rw[j];omega,?_⟩;rcases wu len with h0|h0
 ·exact .inl (by rw[h0];rfl)
 obtain⟨b,off,r⟩:=a;obtain⟨cs0,f,_⟩:=hV 0 O0;obtain⟨_,C,f⟩:=World.cells?_some f;have f:=f 0 z;rw[V8 O0]at f;have t:r=none:=by simpa[Addr.add]using World.cell?_spot f
 subst t;refine .inr ⟨b,off,rfl,?_,λi g=>?_⟩
 ·rw[Bv,Bv]at f;rcases Z7 b W.heap.size with h|h
  ·exact h
  simp[World.cell?,Qo h]at f
 rw[j]at g;rw[A i g];obtain⟨c,h1,h2⟩:=hV i O0;refine⟨c,h2,λq v e=>?_⟩;obtain⟨_,C,E⟩:=World.cells?_some h1;have u:q<n:=by have:=(ah.1 e).1;omega
 have p:=E q u;rw[Bv,Bv]at p;exact p.trans e
theorem uf{t:TypeId}{fs:Array Field}(ht:prog.underlying t=some (.struct fs))(h:DataW.trod enc prog W 0 (λ_=>true) true fuel t cs=some y):
 ∃n,cs.length=prog.cellsOf t/\∀(i:Nat)(f:Field),fs[i]?=some f->∃z,DataW.trod enc prog W 0 (λ_=>true) true n f.type ((cs.drop f.offset).take (prog.cellsOf f.type))=some z:=by
 obtain⟨xs,n,_,rfl,hl,a,hf⟩:=DataW.trod_struct ht h;refine⟨n,hl,λi f e=>?_⟩;have b:i<xs.length:=by rw[a];exact(Ya.1 e).1
 exact⟨xs[i],(hf i f e).trans (V8 b)⟩
abbrev Tr{H:Type}(enc:TypeId×Value->H)(W:World)(n:Nat)(t:TypeId)(cs:List Value)(y:DataW H×List MemPlace):Prop:=DataW.trod enc prog W 0 (λ_=>true) true n t cs=some y
section
variable{H:Type}{enc:TypeId×Value->H}{W:World}{fuel:Nat}{cs:List Value}{y:DataW H×List MemPlace}
theorem zl{α:Type}(d:α){sl g:TypeId}{n:Nat}(k:prog.underlying sl=some (.slice g))(hc:prog.cellsOf g=n)(l:0<n)(Q:List Value->α->Prop)(R:α->Prop)(hR:R d)
 (hQ:∀fuel cs y,DataW.trod enc prog W 0 (λ_=>true) true fuel g cs=some y->∃x,Q cs x/\R x) (hf:Tr enc W fuel sl cs y):
 ∃(a:OA)(cap:Nat)(is:List α),cs=[Sa a is.length cap]/\is.length<=maxLen/\(∀i,R (is.getD i d))/\iy W a is d n (λw b o x=>∃j,Q j x/\Bc w b o j):=by
 obtain⟨a,cap,is,e,hl,h⟩:=aY d k hc l (λcs x=>Q cs x/\R x) hQ hf;refine⟨a,cap,is,e,hl,λi=>?_,?_⟩
 ·by_cases f:i<is.length
  ·rcases h with h|⟨b,off,_,_,h⟩
   ·subst h;exact hR
   obtain⟨_,h,_⟩:=h i f;exact h.2
  rw[List.getD,Eb O0];exact hR
 rcases h with h|⟨b,off,h1,h2,h⟩
 ·exact .inl h
 exact .inr ⟨b,off,h1,h2,λi f=>by obtain⟨c,h,m⟩:=h i f;exact⟨c,h.1,m⟩⟩
theorem JO(h:Tr enc W fuel 9 cs y):∃x:BY,cs=[Sb x]/\x.size<=maxLen:=by
 obtain⟨s,e,_,hs⟩:=Yo underlying9 h;exact⟨s,e,hs⟩
theorem UO(h:Tr enc W fuel 3 cs y):∃x:Int,cs=[Sc Se x]/\x=x:=by
 obtain⟨s,e,_⟩:=Yt underlying3 h;exact⟨s,e,rfl⟩
theorem nS(h:Tr enc W fuel 162 cs y):∃x:T.F2,cs=fiE x/\x.le maxLen:=by
 obtain⟨n,hl,hf⟩:=uf underlying162 h;rw[qI]at hl;obtain⟨i,a,rfl⟩:=UJ hl;obtain⟨c,h0⟩:=hf 0 _ rfl
 replace h0:Tr enc W n 9 (List.take (prog.cellsOf 9) [i,a]) c:=h0
 rw[cells9]at h0;obtain⟨b,h1⟩:=hf 1 _ rfl
 replace h1:Tr enc W n 9 (List.take (prog.cellsOf 9) [a]) b:=h1
 rw[cells9]at h1;obtain⟨e,e0,_,g⟩:=Yo underlying9 h0;simp at e0;obtain⟨d,e1,_,f⟩:=Yo underlying9 h1;simp at e1;exact⟨⟨e,d⟩,by rw[e0,e1];rfl,g,f⟩
theorem UU(h:Tr enc W fuel 107 cs y):∃x:Jb,cs=Kq x/\x.nm.size<=maxLen:=by
 obtain⟨n,hl,hf⟩:=uf underlying107 h;rw[nH]at hl;obtain⟨k,b,c2,rfl⟩:=VF hl;obtain⟨e,h0⟩:=hf 0 _ rfl
 replace h0:Tr enc W n 9 (List.take (prog.cellsOf 9) [k,b,c2]) e:=h0
 rw[cells9]at h0;obtain⟨d,h1⟩:=hf 1 _ rfl
 replace h1:Tr enc W n 3 (List.take (prog.cellsOf 3) [b,c2]) d:=h1
 rw[cells3]at h1;obtain⟨c,h2⟩:=hf 2 _ rfl
 replace h2:Tr enc W n 3 (List.take (prog.cellsOf 3) [c2]) c:=h2
 rw[cells3]at h2;obtain⟨i,e0,_,j⟩:=Yo underlying9 h0;simp at e0;obtain⟨g,e1,_,_⟩:=Yt underlying3 h1;simp at e1;obtain⟨f,a,_,_⟩:=Yt underlying3 h2;simp at a;exact⟨⟨i,g,f⟩,by rw[e0,e1,a];rfl,j⟩
theorem iV(h:Tr enc W fuel 274 cs y):∃x:G3,cs=jQ x/\x.le maxLen:=by
 obtain⟨n,hl,hf⟩:=uf underlying274 h;rw[VI]at hl;obtain⟨l,b,c2,rfl⟩:=VF hl;obtain⟨e,h0⟩:=hf 0 _ rfl
 replace h0:Tr enc W n 4 (List.take (prog.cellsOf 4) [l,b,c2]) e:=h0
 rw[cells4]at h0;obtain⟨d,h1⟩:=hf 1 _ rfl
 replace h1:Tr enc W n 9 (List.take (prog.cellsOf 9) [b,c2]) d:=h1
 rw[cells9]at h1;obtain⟨c,h2⟩:=hf 2 _ rfl
 replace h2:Tr enc W n 9 (List.take (prog.cellsOf 9) [c2]) c:=h2
 rw[cells9]at h2;obtain⟨i,e0,_⟩:=WJ underlying4 h0;simp at e0;obtain⟨g,e1,_,k⟩:=Yo underlying9 h1;simp at e1;obtain⟨f,a,_,j⟩:=Yo underlying9 h2;simp at a;exact⟨⟨i,g,f⟩,by rw[e0,e1,a];rfl,k,j⟩
theorem XB(h:Tr enc W fuel 102 cs y):∃(c:Int)(t:BY),cs=[Sc Se c,Sb t]/\t.size<=maxLen:=by
 obtain⟨n,hl,hf⟩:=uf underlying102 h;rw[AA]at hl;obtain⟨i,a,rfl⟩:=UJ hl;obtain⟨d,h0⟩:=hf 0 _ rfl
 replace h0:Tr enc W n 3 (List.take (prog.cellsOf 3) [i,a]) d:=h0
 rw[cells3]at h0;obtain⟨b,h1⟩:=hf 1 _ rfl
 replace h1:Tr enc W n 9 (List.take (prog.cellsOf 9) [a]) b:=h1
 rw[cells9]at h1;obtain⟨f,e0,_,_⟩:=Yt underlying3 h0;simp at e0;obtain⟨e,e1,_,g⟩:=Yo underlying9 h1;simp at e1;exact⟨f,e,by rw[e0,e1],g⟩
theorem jK(h:Tr enc W fuel 219 cs y):∃x:L4,cs=xw x/\x.le maxLen:=by
 obtain⟨n,hl,hf⟩:=uf underlying219 h;rw[qH]at hl;obtain⟨k,b,c2,c3,rfl⟩:=a2d hl;obtain⟨f,h0⟩:=hf 0 _ rfl
 replace h0:Tr enc W n 4 (List.take (prog.cellsOf 4) [k,b,c2,c3]) f:=h0
 rw[cells4]at h0;obtain⟨e,h1⟩:=hf 1 _ rfl
 replace h1:Tr enc W n 9 (List.take (prog.cellsOf 9) [b,c2,c3]) e:=h1
 rw[cells9]at h1;obtain⟨d,h2⟩:=hf 2 _ rfl
 replace h2:Tr enc W n 102 (List.take (prog.cellsOf 102) [c2,c3]) d:=h2
 rw[AA]at h2;obtain⟨i,e0,_⟩:=WJ underlying4 h0;simp at e0;obtain⟨g,e1,_,j⟩:=Yo underlying9 h1;simp at e1;obtain⟨c,t,a,ht⟩:=XB h2;simp at a;exact⟨⟨i,g,c,t⟩,by rw[e0,e1,a.1,a.2];rfl,j,ht⟩
theorem Qz(h:Tr enc W fuel 22 cs y):∃a cap is,cs=[Sa a is.length cap]/\is.length<=maxLen/\(∀i,(is.getD i ByteArray.empty).size<=maxLen)/\J8 W a is:=by
 obtain⟨a,cap,is,e,hl,hr,h⟩:=zl ByteArray.empty (α:=ByteArray) underlying22 cells9 U5 (λcs x=>cs=[Sb x]) (λx=>x.size<=maxLen) (Y4 _) (λ_ _ _ h=>JO h) h;refine⟨a,cap,is,e,hl,hr,?_⟩;rcases h with h|⟨b,off,h1,h2,d⟩
 ·exact .inl h
 refine .inr ⟨b,off,h1,h2,λi c=>?_⟩;obtain⟨_,rfl,h⟩:=d i c;simpa using h 0 _ rfl
theorem EZ(h:Tr enc W fuel 31 cs y):∃a cap is,cs=[Sa a is.length cap]/\is.length<=maxLen/\(∀i,(is.getD i (0:Int))=(is.getD i (0:Int)))/\Zf W a is:=by
 obtain⟨a,cap,is,e,hl,hr,h⟩:=zl (0:Int) (α:=Int) underlying31 cells3 U5 (λcs x=>cs=[Sc Se x]) (λx=>x=x) (rfl) (λ_ _ _ h=>UO h) h;refine⟨a,cap,is,e,hl,hr,?_⟩;rcases h with h|⟨b,off,h1,h2,d⟩
 ·exact .inl h
 refine .inr ⟨b,off,h1,h2,λi c=>?_⟩;obtain⟨_,rfl,h⟩:=d i c;simpa using h 0 _ rfl
theorem uY(h:Tr enc W fuel 25 cs y):∃a cap is,cs=[Sa a is.length cap]/\is.length<=maxLen/\(∀i,(is.getD i T.o9).le maxLen)/\T.P6 W a is:=by
 obtain⟨a,cap,is,e,hl,hr,h⟩:=zl T.o9 (α:=T.F2) underlying25 qI U5 (λcs x=>cs=fiE x) (λx=>x.le maxLen) (⟨Y4 _,Y4 _⟩) (λ_ _ _ h=>nS h) h;refine⟨a,cap,is,e,hl,hr,?_⟩;rcases h with h|⟨b,off,h1,h2,d⟩
 ·exact .inl h
 refine .inr ⟨b,off,h1,h2,λi c=>?_⟩;obtain⟨_,rfl,h⟩:=d i c;exact⟨h 0 _ rfl,h 1 _ rfl⟩
theorem vZ(h:Tr enc W fuel 33 cs y):∃a cap is,cs=[Sa a is.length cap]/\is.length<=maxLen/\(∀i,(is.getD i Ea).nm.size<=maxLen)/\Qj W a is:=by
 obtain⟨a,cap,is,e,hl,hr,h⟩:=zl Ea (α:=Jb) underlying33 nH U5 (λcs x=>cs=Kq x) (λx=>x.nm.size<=maxLen) (Y4 _) (λ_ _ _ h=>UU h) h;refine⟨a,cap,is,e,hl,hr,?_⟩;rcases h with h|⟨b,off,h1,h2,d⟩
 ·exact .inl h
 refine .inr ⟨b,off,h1,h2,λi c=>?_⟩;obtain⟨_,rfl,h⟩:=d i c;exact h
theorem vW(h:Tr enc W fuel 164 cs y):∃a cap is,cs=[Sa a is.length cap]/\is.length<=maxLen/\(∀i,(is.getD i Jh).le maxLen)/\R_ W a is:=by
 obtain⟨a,cap,is,e,hl,hr,h⟩:=zl Jh (α:=G3) underlying164 VI U5 (λcs x=>cs=jQ x) (λx=>x.le maxLen) (⟨Y4 _,Y4 _⟩) (λ_ _ _ h=>iV h) h;refine⟨a,cap,is,e,hl,hr,?_⟩;rcases h with h|⟨b,off,h1,h2,d⟩
 ·exact .inl h
 refine .inr ⟨b,off,h1,h2,λi c=>?_⟩;obtain⟨_,rfl,h⟩:=d i c;exact⟨h 0 _ rfl,h 1 _ rfl,h 2 _ rfl⟩
theorem lZ(h:Tr enc W fuel 100 cs y):∃a cap is,cs=[Sa a is.length cap]/\is.length<=maxLen/\(∀i,(is.getD i K_).le maxLen)/\O9 W a is:=by
 obtain⟨a,cap,is,e,hl,hr,h⟩:=zl K_ (α:=L4) underlying100 qH U5 (λcs x=>cs=xw x) (λx=>x.le maxLen) (⟨Y4 _,Y4 _⟩) (λ_ _ _ h=>jK h) h;refine⟨a,cap,is,e,hl,hr,?_⟩;rcases h with h|⟨b,off,h1,h2,d⟩
 ·exact .inl h
 refine .inr ⟨b,off,h1,h2,λi c=>?_⟩;obtain⟨_,rfl,h⟩:=d i c;exact⟨h 0 _ rfl,h 1 _ rfl,h 2 _ rfl,h 3 _ rfl⟩
theorem KN(h:Tr enc W fuel 166 cs y):∃x:R3,(∃c q,cs=NJ (x,Sa c x.gs.length q)/\R_ W c x.gs)/\x.le maxLen:=by
 obtain⟨n,hl,hf⟩:=uf underlying166 h;rw[EH]at hl;obtain⟨r,b,c2,rfl⟩:=VF hl;obtain⟨f,h0⟩:=hf 0 _ rfl
 replace h0:Tr enc W n 9 (List.take (prog.cellsOf 9) [r,b,c2]) f:=h0
 rw[cells9]at h0;obtain⟨e,h1⟩:=hf 1 _ rfl
 replace h1:Tr enc W n 164 (List.take (prog.cellsOf 164) [b,c2]) e:=h1
 rw[MQ]at h1;obtain⟨d,h2⟩:=hf 2 _ rfl
 replace h2:Tr enc W n 9 (List.take (prog.cellsOf 9) [c2]) d:=h2
 rw[cells9]at h2;obtain⟨i,e0,_,m⟩:=Yo underlying9 h0;simp at e0;obtain⟨a1,j,gs,e1,o,l,p⟩:=vW h1;simp at e1;obtain⟨g,a,_,k⟩:=Yo underlying9 h2;simp at a;exact⟨⟨i,gs,g⟩,⟨a1,j,by rw[e0,e1,a];rfl,p⟩,m,o,l,k⟩
theorem kV(h:Tr enc W fuel 104 cs y):∃x:Rn,(∃i B,cs=Td (x,Sa i x.ls.length B)/\O9 W i x.ls)/\x.le maxLen:=by
 obtain⟨n,hl,hf⟩:=uf underlying104 h;rw[TG]at hl;obtain⟨C,g,c2,c3,c4,c20,rfl⟩:=a0M hl;obtain⟨o,h0⟩:=hf 0 _ rfl
 replace h0:Tr enc W n 9 (List.take (prog.cellsOf 9) [C,g,c2,c3,c4,c20]) o:=h0
 rw[cells9]at h0;obtain⟨m,h1⟩:=hf 1 _ rfl
 replace h1:Tr enc W n 3 (List.take (prog.cellsOf 3) [g,c2,c3,c4,c20]) m:=h1
 rw[cells3]at h1;obtain⟨l,h2⟩:=hf 2 _ rfl
 replace h2:Tr enc W n 9 (List.take (prog.cellsOf 9) [c2,c3,c4,c20]) l:=h2
 rw[cells9]at h2;obtain⟨k,b⟩:=hf 3 _ rfl
 replace b:Tr enc W n 100 (List.take (prog.cellsOf 100) [c3,c4,c20]) k:=b
 rw[nT]at b;obtain⟨j,a⟩:=hf 4 _ rfl
 replace a:Tr enc W n 102 (List.take (prog.cellsOf 102) [c4,c20]) j:=a
 rw[AA]at a;obtain⟨r,e0,_,w⟩:=Yo underlying9 h0;simp at e0;obtain⟨q,e1,_,_⟩:=Yt underlying3 h1;simp at e1;obtain⟨p,f,_,v⟩:=Yo underlying9 h2;simp at f;obtain⟨D,s,ls,e,z,u,A⟩:=lZ b;simp at e;obtain⟨c,t,d,ht⟩:=XB a;simp at d;exact⟨⟨r,q,p,ls,c,t⟩,⟨D,s,by rw[e0,e1,f,e,d.1,d.2];rfl,A⟩,w,v,⟨z,u⟩,ht⟩
theorem openedR(h:Tr enc W fuel 28 cs y):∃a cap is,cs=[Sa a is.length cap]/\is.length<=maxLen/\(∀i,(is.getD i d_).le maxLen)/\ug W a is:=by
 obtain⟨a,cap,is,e,hl,hr,h⟩:=zl d_ (α:=R3) underlying28 EH U5 (λcs x=>∃c d,cs=NJ (x,Sa c x.gs.length d)/\R_ W c x.gs) (λx=>x.le maxLen) (⟨Y4 _,Y4 _,λ_=>⟨Y4 _,Y4 _⟩,Y4 _⟩) (λ_ _ _ h=>KN h) h;refine⟨a,cap,is,e,hl,hr,?_⟩;rcases h with h|⟨b,off,h1,h2,j⟩
 ·exact .inl h
 refine .inr ⟨b,off,h1,h2,λi f=>?_⟩;obtain⟨_,⟨c,d,rfl,g⟩,h⟩:=j i f;exact⟨c,d,h 0 _ rfl,h 1 _ rfl,h 2 _ rfl,g⟩
theorem ZV(h:Tr enc W fuel 32 cs y):∃a cap is,cs=[Sa a is.length cap]/\is.length<=maxLen/\(∀i,(is.getD i L9).le maxLen)/\Wi W a is:=by
 obtain⟨a,cap,is,e,hl,hr,h⟩:=zl L9 (α:=Rn) underlying32 TG U5 (λcs x=>∃c d,cs=Td (x,Sa c x.ls.length d)/\O9 W c x.ls) (λx=>x.le maxLen) (⟨Y4 _,Y4 _,⟨Y4 _,λ_=>⟨Y4 _,Y4 _⟩⟩,Y4 _⟩) (λ_ _ _ h=>kV h) h;refine⟨a,cap,is,e,hl,hr,?_⟩;rcases h with h|⟨b,off,h1,h2,j⟩
 ·exact .inl h
 refine .inr ⟨b,off,h1,h2,λi f=>?_⟩;obtain⟨_,⟨c,d,rfl,g⟩,h⟩:=j i f;exact⟨c,d,h,g⟩
theorem yP(h:Tr enc W fuel 24 cs y):∃c e b a1 d a,cs=[Sa c b.length e,Sa a1 a.length d]/\((b.length<=maxLen/\∀i,(b.getD i ByteArray.empty).size<=maxLen)/\J8 W c b)/\(a.length<=maxLen/\∀i,(a.getD i ByteArray.empty).size<=maxLen)/\J8 W a1 a:=by
 obtain⟨n,hl,hf⟩:=uf underlying24 h;rw[cells24]at hl;obtain⟨r,f,rfl⟩:=UJ hl;obtain⟨j,h0⟩:=hf 0 _ rfl
 replace h0:Tr enc W n 22 (List.take (prog.cellsOf 22) [r,f]) j:=h0
 rw[cells22]at h0;obtain⟨g,h1⟩:=hf 1 _ rfl
 replace h1:Tr enc W n 22 (List.take (prog.cellsOf 22) [f]) g:=h1
 rw[cells22]at h1;obtain⟨c,e,b,e0,q,o,l⟩:=Qz h0;obtain⟨a1,d,a,e1,p,m,k⟩:=Qz h1;simp at e0 e1;exact⟨c,e,b,a1,d,a,by rw[e0,e1],⟨⟨q,o⟩,l⟩,⟨p,m⟩,k⟩
theorem DK(h:Tr enc W fuel 27 cs y):∃a k is,cs=[Sa a is.length k]/\is.length<=maxLen/\(∀i,(is.getD i T.o9).le maxLen)/\T.P6 W a is:=by
 obtain⟨n,hl,hf⟩:=uf underlying27 h;rw[cells27]at hl;obtain⟨c,rfl⟩:=a0K hl;obtain⟨b,h0⟩:=hf 0 _ rfl
 replace h0:Tr enc W n 25 (List.take (prog.cellsOf 25) [c]) b:=h0
 rw[cells25]at h0;exact uY h0
theorem JH(h:Tr enc W fuel 30 cs y):∃(s:St)(d a1:OA)(u a:Nat),cs=[Sc Se s.wd,Sa d s.ts.length u,Sa a1 s.rs.length a]/\s.le maxLen/\xh W d a1 s:=by
 obtain⟨n,hl,hf⟩:=uf underlying30 h;rw[cells30]at hl;obtain⟨v,c,c2,rfl⟩:=VF hl;obtain⟨g,h0⟩:=hf 0 _ rfl
 replace h0:Tr enc W n 3 (List.take (prog.cellsOf 3) [v,c,c2]) g:=h0
 rw[cells3]at h0;obtain⟨f,h1⟩:=hf 1 _ rfl
 replace h1:Tr enc W n 22 (List.take (prog.cellsOf 22) [c,c2]) f:=h1
 rw[cells22]at h1;obtain⟨e,h2⟩:=hf 2 _ rfl
 replace h2:Tr enc W n 28 (List.take (prog.cellsOf 28) [c2]) e:=h2
 rw[cells28]at h2;obtain⟨i,e0,_,_⟩:=Yt underlying3 h0;simp at e0;obtain⟨a1,a,r,e1,p,m,k⟩:=Qz h1;obtain⟨a2,t,q,b,o,l,j⟩:=openedR h2;simp at e1 b;exact⟨⟨i,r,q⟩,a1,a2,a,t,by rw[e0,e1,b],⟨⟨p,m⟩,o,l⟩,k,j⟩
theorem XQ(h:Tr enc W fuel 35 cs y):∃b q,cs=bsV b q/\lg b maxLen/\jh W b q:=by
 obtain⟨n,hl,hf⟩:=uf underlying35 h;rw[cells35]at hl;obtain⟨c0,z,c2,c3,c4,c20,c6,c75,c9,c13,c14,c15,c16,c17,c18,rfl⟩:=lW hl;obtain⟨N,h0⟩:=hf 0 _ rfl
 replace h0:Tr enc W n 3 (List.take (prog.cellsOf 3) [c0,z,c2,c3,c4,c20,c6,c75,c9,c13,c14,c15,c16,c17,c18]) N:=h0
 rw[cells3]at h0;obtain⟨L,h1⟩:=hf 1 _ rfl
 replace h1:Tr enc W n 4 (List.take (prog.cellsOf 4) [z,c2,c3,c4,c20,c6,c75,c9,c13,c14,c15,c16,c17,c18]) L:=h1
 rw[cells4]at h1;obtain⟨I,h2⟩:=hf 2 _ rfl
 replace h2:Tr enc W n 3 (List.take (prog.cellsOf 3) [c2,c3,c4,c20,c6,c75,c9,c13,c14,c15,c16,c17,c18]) I:=h2
 rw[cells3]at h2;obtain⟨H,i⟩:=hf 3 _ rfl
 replace i:Tr enc W n 3 (List.take (prog.cellsOf 3) [c3,c4,c20,c6,c75,c9,c13,c14,c15,c16,c17,c18]) H:=i
 rw[cells3]at i;obtain⟨F,g⟩:=hf 4 _ rfl
 replace g:Tr enc W n 3 (List.take (prog.cellsOf 3) [c4,c20,c6,c75,c9,c13,c14,c15,c16,c17,c18]) F:=g
 rw[cells3]at g;obtain⟨E,f⟩:=hf 5 _ rfl
 replace f:Tr enc W n 24 (List.take (prog.cellsOf 24) [c20,c6,c75,c9,c13,c14,c15,c16,c17,c18]) E:=f
 rw[cells24]at f;obtain⟨D,e⟩:=hf 6 _ rfl
 replace e:Tr enc W n 27 (List.take (prog.cellsOf 27) [c75,c9,c13,c14,c15,c16,c17,c18]) D:=e
 rw[cells27]at e;obtain⟨C,d⟩:=hf 7 _ rfl
 replace d:Tr enc W n 30 (List.take (prog.cellsOf 30) [c9,c13,c14,c15,c16,c17,c18]) C:=d
 rw[cells30]at d;obtain⟨B,c⟩:=hf 8 _ rfl
 replace c:Tr enc W n 31 (List.take (prog.cellsOf 31) [c15,c16,c17,c18]) B:=c
 rw[cells31]at c;obtain⟨A,a⟩:=hf 9 _ rfl
 replace a:Tr enc W n 22 (List.take (prog.cellsOf 22) [c16,c17,c18]) A:=a
 rw[cells22]at a;obtain⟨K,h10⟩:=hf 10 _ rfl
 replace h10:Tr enc W n 32 (List.take (prog.cellsOf 32) [c17,c18]) K:=h10
 rw[cells32]at h10;obtain⟨J,j⟩:=hf 11 _ rfl
 replace j:Tr enc W n 33 (List.take (prog.cellsOf 33) [c18]) J:=j
 rw[cells33]at j;obtain⟨U,e0,_,_⟩:=Yt underlying3 h0;simp at e0;obtain⟨S,e1,_⟩:=WJ underlying4 h1;simp at e1;obtain⟨R,v,_,_⟩:=Yt underlying3 h2;simp at v;obtain⟨Q,u,_,_⟩:=Yt underlying3 i;simp at u;obtain⟨P,t,_,_⟩:=Yt underlying3 g;simp at t;obtain⟨la0,lk0,ll0,la1,lk1,ll1,o,m,l⟩:=yP f;obtain⟨a6,k6,l6,s,p6,q6,Y⟩:=DK e;obtain⟨O,a7,b7,k7,m7,k,p7,q7⟩:=JH d;obtain⟨a8,k8,l8,r,p8,_,X⟩:=EZ c;obtain⟨a9,k9,l9,p,p9,q9,V⟩:=Qz a;obtain⟨a10,k10,l10,x,p10,q10,r10⟩:=ZV h10;obtain⟨a11,k11,l11,w,p11,q11,Z⟩:=vZ j;simp at o s k r p x w;refine⟨⟨U,S,R,Q,P,ll0,ll1,l6,O,l8,l9,l10,l11⟩,⟨la0,lk0,la1,lk1,a6,k6,a7,k7,b7,m7,a8,k8,a9,k9,a10,k10,a11,k11⟩,?_,⟨m.1.1,m.1.2,l.1.1,l.1.2,p6,q6,p7,p8,p9,q9,p10,q10,p11,q11⟩,m.2,l.2,Y,q7,X,V,r10,Z⟩;rw[e0,e1,v,u,t,o.1,o.2,s,k.1,k.2.1,k.2.2,r,p,x,w]
end
def cell1 : DataW Unit → Value
  | .lit (.int k n)=>.int k n
  | .lit (.bool b)=>.bool b
  | .lit (.string l)=>Sb ⟨l.toArray⟩
  | _=>.bool false
def a1x : DataW Unit → List Value
  | .agg es=>es.map cell1
  | d=>[cell1 d]
def cells2 : DataW Unit → Array Value
  | .agg ds=>(ds.flatMap a1x).toArray
  | _=>#[]
def Kv(g : Nat)(t : Array Value)(w : World) : World := { w with heap:=w.heap.modify g fun
      | Sg _ ty frozen=>Sg t ty frozen
      | o=>o }
end Go.Proofs.YtdgneicbmalnpaaGreatDoor
namespace Go.Proofs.YtdgneicbmalnpaaGreatDoor
open Proofs.Tryz Go.RowKit
theorem a3H(p:Addr)(c:Int)(x:Int)(a:List PanicEntry)(w:World)(hc:w.cell? p=some (Sc Se x))(hz:w.frozen? p=false):
 CallsD prog 130 #[Sd (some p)] (.panicking ({v:=.iface 195 (Sc Se c),recovered:=false}::a)) w λe u' w'=>e=Sf (.tuple #[])/\u'=.panicking ({v:=.iface 195 (Sc Se c),recovered:=true}::a)/\w'=w.setCell p (Sc Se c):=by
 have hTA:∀w:World,(Instr.typeAssert (.iface 195 (Sc Se c)) 20 195 true).run prog w=.ok (.tuple #[Sc Se c,.bool true]) w:=λ_=>by kernel_rfl
 refine callsD_of_wpS func130 rfl λd cs b=>?_;apply wpS_seq;apply wpS_region;simp[wpOpsS,go_sem,recoverD,b,ntmps130,Exit.thenS];refine wpS_of_wp ?_;go_wp2;cases d
 simp_all [bodyPostS,results,results130]
theorem a2q(p:Addr)(w:World):CallsD prog 130 #[Sd (some p)] .returning w λe u' w'=>e=Sf (.tuple #[])/\u'=.returning/\w'=w:=by
 refine callsD_of_wpS func130 rfl λb cs a=>?_;apply wpS_seq;apply wpS_region;simp[wpOpsS,go_sem,recoverD,a,ntmps130,Exit.thenS];refine wpS_of_wp ?_;go_wp2;cases b
 simp_all [bodyPostS,results,results130]
theorem c32(b:Bs)(q:Ba)(D g j:Nat)(R:List Value)(x:BY)(A:Nat)(w:World)(hA:A<=w.heap.size)(hx:x.size<=1048576)(hl:b.rt.length<=1000)(hC:Cl w D 139 (bsV b q++R))(ho:w.ownsRow A 9 1 (Sa q.oa b.rt.length q.oc) b.rt.length (b.rt.map Sb))(hn:w.cell? ⟨g,j,none⟩=some (Sb x)):
 Calls prog 32 #[Sd (some ⟨D,0,none⟩),Sd (some ⟨g,j,none⟩)] w (gu b q D R x A w):=by
 have H:=U0 (c33 b q D R x A w hA hx hl hC ho);clear hC ho
 go_in
 go_wp2_with fail
 refine H.o.mono ?_;rintro e w' h;have a:=U0 h;cases h
 all_goals go_wp2
 all_goals first|(exact⟨rfl,a.o⟩)|(go_end0;exact a.o)
theorem JR{b:Bs}{q:Ba}{D:Nat}{R:List Value}{x:BY}{A:Nat}{w w':World}{e:Ending}(h:gu b q D R x A w e w'){p:Nat}(a:p<w.heap.size)(hD:p≠D)(c:(Sa q.oa b.rt.length q.oc).ownBlock≠some p):w'.heap[p]?=w.heap[p]?:=by
 cases h with
 | new _ _ _ _ _ _ _ _ _ _ _ hk=>exact hk p a hD c
 | _=>rfl
theorem c77(b:Bs)(q:Ba)(D g j:Nat)(R:List Value)(x:BY)(A:Nat)(w:World)(hA:A<=w.heap.size)(hx:x.size<=1048576)(hl:b.rt.length<=1000)(hC:Cl w D 139 (bsV b q++R))(ho:w.ownsRow A 9 1 (Sa q.oa b.rt.length q.oc) b.rt.length (b.rt.map Sb))(d:w.cell? ⟨g,j,none⟩=some (Sb x)):
 Calls prog 77 #[Sd (some ⟨D,0,none⟩),.func (.func 32) #[] #[Sd (some ⟨g,j,none⟩)]] w λe w'=>∃c w1,gu b q D R x A (w.alloc (Sg #[Sc Se 0] 3)) (if c=0 then Ut else Rf c) w1/\e=Sf (Sc Se c)/\Jr w.heap.size w1 w':=by
 have hB:=U6 (w:=w) (o:=Sg #[Sc Se 0] 3);have H:=U0 (c32 b q D g j R x A _ (X7 hA hB.size) hx hl (hC.below hB hC.lt) (own_below ho hB) ((hB.cell (by
  rcases Z7 g w.heap.size with h|h
  ·exact h
  simp[World.cell?,Qo h]at d)).trans d))
 have hmf:∀(fn:Fn)(first cap:Array Value)(w:World),(Instr.makeFunc fn first cap).run prog w=.ok (.func fn first cap) w:=λ_ _ _ _=>rfl
 go_enter_defers func77,ntmps77
 go_wp2_with fail
 refine H.o.mono ?_;rintro e w1 h;have a:=U0 h;have e0:w1.heap[w.heap.size]?=some (Sg #[Sc Se 0] 3 (0,0)):=(JR h (by simp) (λe=>by have:=hC.lt;omega) (λe=>by have:=o_ ho e;omega)).trans (I4 w [Sc Se 0] 3);have hc:w1.cell? ⟨w.heap.size,0,none⟩=some (Sc Se 0):=by rw[Cl.cell (xs:=[Sc Se 0]) e0];rfl
 have hz:w1.frozen? ⟨w.heap.size,0,none⟩=false:=Cl.opn (xs:=[Sc Se 0]) e0 0;clear H ho hC d;generalize hV:w.alloc (Sg #[Sc Se 0] 3)=V at h a;cases h
 all_goals go_wp2
 all_goals refine leaves_cons (f:=130) (args:=#[Sd (some ⟨w.heap.size,0,none⟩)]) (by simp) (by simp[go_sem]) ?_
 all_goals first
  | refine(a3H ⟨w.heap.size,0,none⟩ _ 0 [] _ hc hz).mono ?_
  | refine(a2q ⟨w.heap.size,0,none⟩ _).mono ?_
 all_goals rintro e u' w''⟨rfl,rfl,rfl⟩
 all_goals simp[Leaves,settle,results,results77,go_sem,hc]
 all_goals rw[hV]
 all_goals first
  | exact⟨0,_,a.o,rfl,u_ _ _ _ _⟩
  | exact⟨2,_,a.o,rfl,u_ _ _ _ _⟩
  | exact⟨3,_,a.o,rfl,u_ _ _ _ _⟩
  | trace_state
def YP(vs:List Value)(w w':World):Prop:=∀k xs,Cl w k 9 xs->(∀v∈vs,v.ownBlock≠some k)->w'.heap[k]?=w.heap[k]?
section
variable{A B n:Nat}{w w' w'':World}{v:Value}{l:List (Int->Value)}{K:Int}{S:List TypeId}{vs vs':List Value}
theorem YP.md(h:Md A B S w w')(ht:9∉S):YP vs w w':=λk xs C _=>h.ty k 9 xs C ht
theorem YP.tr(h:YP vs w w')(k:YP vs' w' w''):YP (vs++vs') w w'':=λg xs C a=>by
 have e:=h g xs C (λv hv=>a v (dF _ hv));exact(k g xs (e.trans C) (λv hv=>a v (dJ _ hv))).trans e
theorem Mf.fr(h:Mf w 9 l K v n)(k:YP vs w w')(b:∀v'∈vs,NE v v'):Mf w' 9 l K v n:=h.keep (λg ys a C=>k g ys C (λv' hv=>b v' hv g a))
end
theorem KX(A B:Nat)(v:Value)(n:Nat)(K:Int)(w:World)(f:A<=B)(h1:1<=K)(h2:K<=90000000000000)(d:n<=1048576)(ho:Rw A B w 9 1 v n):
 Calls prog 47 #[v,Sc Se K] w λe w'=>(e=Sf (Sc Se (K+(n:Int)))/\Mf w' 9 [mT] K v n)/\Md A B [9] w w'/\YP [v] w w':=by
 obtain⟨A',B',hr,c,b,a⟩:=ho.one f;exact(m44 A' B' v n K w h1 h2 d hr).mono λe w' h=>⟨h.1,h.2.mono c b (λ_ h=>h),λg xs C hv=>h.2.block g C.lt (by
  rcases Z7 g A' with h1|h1
  ·exact .inl h1
  rcases Z7 g B' with h2|h2
  ·exact absurd (a g h1 h2) (hv v (Zj.2 rfl))
  exact .inr h2)⟩
theorem m40(A B:Nat)(sa la:OA)(n sc m lc:Nat)(K:Int)(w:World)(d:A<=B)(hB:B<=w.heap.size)(h1:1<=K)(h2:K<=80000000000000)(g:n<=1048576)(hm:m<=1048576)(ho:Rw A B w 9 1 (Sa sa n sc) n)(hl:Rw A B w 9 1 (Sa la m lc) m):
 Calls prog 43 #[.agg #[Sa sa n sc,Sa la m lc],Sc Se K] w λe w'=>(e=Sf (Sc Se (K+(n:Int)+(m:Int)))/\(NE (Sa sa n sc) (Sa la m lc)->Mf w' 9 [mT] K (Sa sa n sc) n)/\Mf w' 9 [mT] (K+(n:Int)) (Sa la m lc) m)/\Md A B [9] w w':=by
 have j:=U0 ho;have i:=U0 hl;clear ho hl
 go_in
 go_upto_region 1 with fail
 have H:=U0 (qF (A:=A) (B:=B) (w:=w) (t:=37) (cs:=[vL sa n sc,vL la m lc]));generalize w.alloc (Sg #[vL sa n sc,vL la m lc] 37)=V at*
 go_wp2_with(refine J7 H.o.c rfl _ _ rfl rfl rfl Y0 ?_)
 refine(KX A B _ n K V d h1 O0 g (j.o.md H.o.md)).mono ?_;rintro e V1⟨⟨rfl,a⟩,md,_⟩;have b:=U0 a
 replace H:=U0 (H.o.go hB md)
 clear md a
 go_wp2_with(refine J7 H.o.c rfl _ _ rfl rfl rfl Y0 ?_)
 refine(KX A B _ m _ V1 d O0 O0 hm (i.o.md H.o.md)).mono ?_;rintro e h⟨⟨rfl,a⟩,md,fr⟩;have F2:=U0 a
 replace b:Hid (NE (vL sa n sc) (vL la m lc)->Mf h 9 [mT] K (vL sa n sc) n):=λf=>b.o.fr fr (λv' hv=>by rw[Zj.1 hv];exact f)
 replace H:=U0 (H.o.go hB md)
 clear md a fr;go_wp2;go_ret;exact⟨⟨rfl,b.o,F2.o⟩,H.o.fin (by simp)⟩
theorem m41(A B:Nat)(v:Value)(n:Nat)(K:Int)(w:World)(hB:B<=w.heap.size)(h1:1<=K)(h2:K<=80000000000000)(b:n<=1048576)(ho:Rw A B w 169 2 v n):
 Calls prog 44 #[.agg #[v],Sc Se K] w λe w'=>(e=Sf (Sc Se (K+2*(n:Int)))/\Mf w' 169 [mT,mT] K v n)/\Md A B [169] w w':=by
 have d:=U0 ho;clear ho
 go_in
 go_upto_region 1 with fail
 have H:=U0 (qF (A:=A) (B:=B) (w:=w) (t:=40) (cs:=[v]));generalize w.alloc (Sg #[v] 40)=V at*
 go_wp2_with(refine J7 H.o.c rfl _ _ rfl rfl rfl Y0 ?_)
 refine(a6x A B v n K V h1 O0 b (d.o.md H.o.md)).mono ?_;rintro e V1⟨⟨rfl,a⟩,m⟩;have f:=U0 a
 replace H:=U0 (H.o.go hB m)
 clear m a;go_wp2;go_ret;exact⟨⟨rfl,f.o⟩,H.o.fin (by simp)⟩
theorem m42(A B:Nat)(tv rv:Value)(n k:Nat)(vr:List Value)(lr:List Nat)(wd K:Int)(w:World)(f:A<=B)(hB:B<=w.heap.size)(h1:1<=K)(h2:K<=40000000000000)(g:n<=1048576)(hk:k<=1048576)(ho:Rw A B w 9 1 tv n)(hl:NR A B w 179 3 1 235 3 rv k vr lr):
 Calls prog 45 #[.agg #[Sc Se wd,tv,rv],Sc Se K] w λe w'=>(e=Sf (Sc Se (kQ 2 3 lr (K+(n:Int)) k))/\Mf w' 9 [mT] K tv n/\(Ap k vr->MN w' 179 3 1 235 [mB,mT,mT] 1 rE 2 3 (K+(n:Int)) rv k vr lr))/\Md A B [9,179,235] w w'/\YP [tv] w w':=by
 have i:=U0 ho;have h:=U0 hl;clear ho hl
 go_in
 go_upto_region 1 with fail
 have H:=U0 (qF (A:=A) (B:=B) (w:=w) (t:=43) (cs:=[vI wd,tv,rv]));have R:Hid (YP [] w (w.alloc (Sg #[vI wd,tv,rv] 43))):=YP.md (Md.of (A:=0) (B:=0) (S:=[]) U6) Oo;generalize w.alloc (Sg #[vI wd,tv,rv] 43)=V at*
 go_wp2_with(refine J7 H.o.c rfl _ _ rfl rfl rfl Y0 ?_)
 refine(KX A B tv n K V f h1 O0 g (i.o.md H.o.md)).mono ?_;rintro e V1⟨⟨rfl,d⟩,m,fr⟩;have a:=U0 d
 replace R:=U0 (R.o.tr fr)
 replace H:=U0 (H.o.go hB m)
 clear m d fr
 go_wp2_with(refine J7 H.o.c rfl _ _ rfl rfl rfl Y0 ?_)
 refine(a4A A B rv k vr lr _ V1 O0 O0 hk f (h.o.md H.o.md (by decide))).mono ?_;rintro e V2⟨⟨rfl,b⟩,m⟩;have F2:=U0 b
 replace a:=U0 (a.o.md m (by decide))
 replace R:=U0 (R.o.tr (YP.md (vs:=[]) m (by decide)))
 replace H:=U0 (H.o.go hB m)
 clear m b;go_wp2;go_ret;exact⟨⟨rfl,a.o,F2.o⟩,H.o.fin (by decide),R.o⟩
end Go.Proofs.YtdgneicbmalnpaaGreatDoor
namespace Go.Proofs.YtdgneicbmalnpaaGreatDoor
open Proofs.Tryz Go.RowKit
structure BW(A B:Nat)(w:World)(b:Bs)(q:Ba)(vr:List Value)(lr:List Nat)(vn:List Value)(ln:List Nat):Prop where
 sf:Rw A B w 9 1 (Sa q.sa b.sf.length q.sc) b.sf.length
 lo:Rw A B w 9 1 (Sa q.la b.lo.length q.lc) b.lo.length
 fs:Rw A B w 169 2 (Sa q.fa b.fs.length q.fc) b.fs.length
 ts:Rw A B w 9 1 (Sa q.ta b.s.ts.length q.tc) b.s.ts.length
 rs:NR A B w 179 3 1 235 3 (Sa q.ra b.s.rs.length q.rc) b.s.rs.length vr lr
 hd:Rw A B w 3 1 (Sa q.ha b.hd.length q.hc) b.hd.length
 rt:Rw A B w 9 1 (Sa q.oa b.rt.length q.oc) b.rt.length
 rn:NR A B w 119 6 3 213 4 (Sa q.na b.rn.length q.nc) b.rn.length vn ln
 jb:Rw A B w 124 3 (Sa q.ja b.jb.length q.jc) b.jb.length
structure aQ(b:Bs)(q:Ba)(vr vn:List Value):Prop where
 n1:NE (Sa q.sa b.sf.length q.sc) (Sa q.la b.lo.length q.lc)
 n2:NE (Sa q.sa b.sf.length q.sc) (Sa q.ta b.s.ts.length q.tc)
 n3:NE (Sa q.la b.lo.length q.lc) (Sa q.ta b.s.ts.length q.tc)
 n4:NE (Sa q.sa b.sf.length q.sc) (Sa q.oa b.rt.length q.oc)
 n5:NE (Sa q.la b.lo.length q.lc) (Sa q.oa b.rt.length q.oc)
 n6:NE (Sa q.ta b.s.ts.length q.tc) (Sa q.oa b.rt.length q.oc)
 rs:Ap b.s.rs.length vr
 rn:Ap b.rn.length vn
structure BM(w:World)(b:Bs)(q:Ba)(vr:List Value)(lr:List Nat)(vn:List Value)(ln:List Nat):Prop where
 sf:Mf w 9 [mT] 1 (Sa q.sa b.sf.length q.sc) b.sf.length
 lo:Mf w 9 [mT] (1+(b.sf.length:Int)) (Sa q.la b.lo.length q.lc) b.lo.length
 fs:Mf w 169 [mT,mT] (1+(b.sf.length:Int)+(b.lo.length:Int)) (Sa q.fa b.fs.length q.fc) b.fs.length
 ts:Mf w 9 [mT] (1+(b.sf.length:Int)+(b.lo.length:Int)+2*(b.fs.length:Int)) (Sa q.ta b.s.ts.length q.tc) b.s.ts.length
 rs:MN w 179 3 1 235 [mB,mT,mT] 1 rE 2 3 (1+(b.sf.length:Int)+(b.lo.length:Int)+2*(b.fs.length:Int)+(b.s.ts.length:Int)) (Sa q.ra b.s.rs.length q.rc) b.s.rs.length vr lr
 hd:Mf w 3 [mI] (kQ 2 3 lr (1+(b.sf.length:Int)+(b.lo.length:Int)+2*(b.fs.length:Int)+(b.s.ts.length:Int)) b.s.rs.length) (Sa q.ha b.hd.length q.hc) b.hd.length
 rt:Mf w 9 [mT] ((kQ 2 3 lr (1+(b.sf.length:Int)+(b.lo.length:Int)+2*(b.fs.length:Int)+(b.s.ts.length:Int)) b.s.rs.length)+(b.hd.length:Int)) (Sa q.oa b.rt.length q.oc) b.rt.length
 rn:MN w 119 6 3 213 [mB,mT,mI,mT] 3 nE 5 4 ((kQ 2 3 lr (1+(b.sf.length:Int)+(b.lo.length:Int)+2*(b.fs.length:Int)+(b.s.ts.length:Int)) b.s.rs.length)+(b.hd.length:Int)+(b.rt.length:Int)) (Sa q.na b.rn.length q.nc) b.rn.length vn ln
 jb:Mf w 124 [mT,mI,mI] (kQ 5 4 ln ((kQ 2 3 lr (1+(b.sf.length:Int)+(b.lo.length:Int)+2*(b.fs.length:Int)+(b.s.ts.length:Int)) b.s.rs.length)+(b.hd.length:Int)+(b.rt.length:Int)) b.rn.length) (Sa q.ja b.jb.length q.jc) b.jb.length
def bX(b:Bs)(lr ln:List Nat):Int:=((kQ 5 4 ln ((kQ 2 3 lr (1+(b.sf.length:Int)+(b.lo.length:Int)+2*(b.fs.length:Int)+(b.s.ts.length:Int)) b.s.rs.length)+(b.hd.length:Int)+(b.rt.length:Int)) b.rn.length)+3*(b.jb.length:Int))
theorem BM.below{w w':World}{b:Bs}{q:Ba}{vr vn:List Value}{lr ln:List Nat}(h:BM w b q vr lr vn ln)(k:Bw w w'):BM w' b q vr lr vn ln:=⟨h.sf.below k,h.lo.below k,h.fs.below k,h.ts.below k,h.rs.below k,h.hd.below k,h.rt.below k,h.rn.below k,h.jb.below k⟩
theorem m9(A B:Nat)(b:Bs)(q:Ba)(vr:List Value)(lr:List Nat)(vn:List Value)(ln:List Nat)(w:World)(l:A<=B)(hB:B<=w.heap.size)(hl:lg b 1048576)(ho:BW A B w b q vr lr vn ln):
 Calls prog 10 #[.agg (bsV b q).toArray,Sc Se 1] w λe w'=>(e=Sf (Sc Se (bX b lr ln))/\0<=bX b lr ln/\(aQ b q vr vn->BM w' b q vr lr vn ln))/\Md A B [9,169,179,235,3,119,213,124] w w':=by
 have d:=U0 ho;have n1:=hl.sl;have n2:=hl.ll;have n3:=hl.fl;have n4:=hl.st.1.1;have n5:=hl.st.2.1;have n6:=hl.hl;have n7:=hl.rl;have x:=hl.nl;have v:=hl.jl;have u:=Qv (c:=2) (e:=3) (K:=(1+(b.sf.length:Int)+(b.lo.length:Int)+2*(b.fs.length:Int)+(b.s.ts.length:Int))) ho.rs.le _ (Y7 _);have r:=Qv (c:=5) (e:=4) (K:=((kQ 2 3 lr (1+(b.sf.length:Int)+(b.lo.length:Int)+2*(b.fs.length:Int)+(b.s.ts.length:Int)) b.s.rs.length)+(b.hd.length:Int)+(b.rt.length:Int))) ho.rn.le _ (Y7 _)
 replace u:(1+(b.sf.length:Int)+(b.lo.length:Int)+2*(b.fs.length:Int)+(b.s.ts.length:Int))<=(kQ 2 3 lr (1+(b.sf.length:Int)+(b.lo.length:Int)+2*(b.fs.length:Int)+(b.s.ts.length:Int)) b.s.rs.length)/\(kQ 2 3 lr (1+(b.sf.length:Int)+(b.lo.length:Int)+2*(b.fs.length:Int)+(b.s.ts.length:Int)) b.s.rs.length)<=(1+(b.sf.length:Int)+(b.lo.length:Int)+2*(b.fs.length:Int)+(b.s.ts.length:Int))+3145730*(b.s.rs.length:Int):=u
 replace r:((kQ 2 3 lr (1+(b.sf.length:Int)+(b.lo.length:Int)+2*(b.fs.length:Int)+(b.s.ts.length:Int)) b.s.rs.length)+(b.hd.length:Int)+(b.rt.length:Int))<=(kQ 5 4 ln ((kQ 2 3 lr (1+(b.sf.length:Int)+(b.lo.length:Int)+2*(b.fs.length:Int)+(b.s.ts.length:Int)) b.s.rs.length)+(b.hd.length:Int)+(b.rt.length:Int)) b.rn.length)/\(kQ 5 4 ln ((kQ 2 3 lr (1+(b.sf.length:Int)+(b.lo.length:Int)+2*(b.fs.length:Int)+(b.s.ts.length:Int)) b.s.rs.length)+(b.hd.length:Int)+(b.rt.length:Int)) b.rn.length)<=((kQ 2 3 lr (1+(b.sf.length:Int)+(b.lo.length:Int)+2*(b.fs.length:Int)+(b.s.ts.length:Int)) b.s.rs.length)+(b.hd.length:Int)+(b.rt.length:Int))+4194309*(b.rn.length:Int):=r
 go_in
 go_upto_region 1 with fail
 have H:=U0 (qF (A:=A) (B:=B) (w:=w) (t:=47) (cs:=bsV b q));generalize w.alloc (Sg (bsV b q).toArray 47)=V at*
 go_wp2_with(first|(refine D9 H.o.c rfl 37 _ rfl (j:=5) [vL q.sa b.sf.length q.sc,vL q.la b.lo.length q.lc] rfl rfl underlying37 rfl Y0 ?_)|(refine J7 H.o.c rfl _ _ rfl rfl rfl Y0 ?_))
 refine(m40 A B q.sa q.la b.sf.length q.sc b.lo.length q.lc 1 V l (X7 hB H.o.md.size) O0 O0 n1 n2 (d.o.sf.md H.o.md) (d.o.lo.md H.o.md)).mono ?_;rintro e V1⟨⟨rfl,J,I⟩,m⟩;have a:Hid (aQ b q vr vn->Mf V1 9 [mT] 1 (vL q.sa b.sf.length q.sc) b.sf.length):=λh=>J h.n1;have F2:=U0 I
 replace H:=U0 (H.o.go hB m)
 go_wp2_with(first|(refine D9 H.o.c rfl 40 _ rfl (j:=7) [vL q.fa b.fs.length q.fc] rfl rfl underlying40 rfl Y0 ?_)|(refine J7 H.o.c rfl _ _ rfl rfl rfl Y0 ?_))
 refine(m41 A B _ b.fs.length _ V1 (X7 hB H.o.md.size) O0 O0 n3 (d.o.fs.md H.o.md)).mono ?_;rintro e P⟨⟨rfl,f3⟩,m⟩;have f:=U0 f3
 replace a:=U0 (λh=>(a h).md m (by decide))
 replace F2:=U0 (F2.o.md m (by decide))
 replace H:=U0 (H.o.go hB m)
 go_wp2_with(first|(refine D9 H.o.c rfl 43 _ rfl (j:=8) [vI b.s.wd,vL q.ta b.s.ts.length q.tc,vL q.ra b.s.rs.length q.rc] rfl rfl underlying43 rfl Y0 ?_)|(refine J7 H.o.c rfl _ _ rfl rfl rfl Y0 ?_))
 refine(m42 A B _ _ b.s.ts.length b.s.rs.length vr lr b.s.wd _ P l (X7 hB H.o.md.size) O0 O0 n4 n5 (d.o.ts.md H.o.md) (d.o.rs.md H.o.md (by decide))).mono ?_;rintro e o⟨⟨rfl,F,E⟩,m,fr⟩;have i:=U0 F;have g:Hid (aQ b q vr vn->_):=λh=>E h.rs
 replace a:Hid (aQ b q vr vn->Mf o 9 [mT] 1 (vL q.sa b.sf.length q.sc) b.sf.length):=λh=>(a h).fr fr (λv' hv=>by rw[Zj.1 hv];exact h.n2)
 replace F2:Hid (aQ b q vr vn->Mf o 9 [mT] (1+(b.sf.length:Int)) (vL q.la b.lo.length q.lc) b.lo.length):=λh=>F2.o.fr fr (λv' hv=>by rw[Zj.1 hv];exact h.n3)
 replace f:=U0 (f.o.md m (by decide))
 replace H:=U0 (H.o.go hB m)
 go_wp2_with(refine J7 H.o.c rfl _ _ rfl rfl rfl Y0 ?_)
 refine(m43 A B _ b.hd.length _ o O0 O0 n6 (d.o.hd.md H.o.md)).mono ?_;rintro e O⟨⟨rfl,D⟩,m⟩;have k:=U0 D
 replace a:=U0 (λh=>(a h).md m (by decide))
 replace F2:=U0 (λh=>(F2 h).md m (by decide))
 replace f:=U0 (f.o.md m (by decide))
 replace i:=U0 (i.o.md m (by decide))
 replace g:=U0 (λh=>(g h).md m (by decide) (by decide))
 replace H:=U0 (H.o.go hB m)
 go_wp2_with(refine J7 H.o.c rfl _ _ rfl rfl rfl Y0 ?_)
 refine(KX A B _ b.rt.length _ O l O0 O0 n7 (d.o.rt.md H.o.md)).mono ?_;rintro e n⟨⟨rfl,C⟩,m,fr⟩;have p:=U0 C
 replace a:Hid (aQ b q vr vn->Mf n 9 [mT] 1 (vL q.sa b.sf.length q.sc) b.sf.length):=λh=>(a h).fr fr (λv' hv=>by rw[Zj.1 hv];exact h.n4)
 replace F2:Hid (aQ b q vr vn->Mf n 9 [mT] (1+(b.sf.length:Int)) (vL q.la b.lo.length q.lc) b.lo.length):=λh=>(F2 h).fr fr (λv' hv=>by rw[Zj.1 hv];exact h.n5)
 replace f:=U0 (f.o.md m (by decide))
 replace i:Hid (aQ b q vr vn->Mf n 9 [mT] (1+(b.sf.length:Int)+(b.lo.length:Int)+2*(b.fs.length:Int)) (vL q.ta b.s.ts.length q.tc) b.s.ts.length):=λh=>i.o.fr fr (λv' hv=>by rw[Zj.1 hv];exact h.n6)
 replace g:=U0 (λh=>(g h).md m (by decide) (by decide))
 replace k:=U0 (k.o.md m (by decide))
 replace H:=U0 (H.o.go hB m)
 go_wp2_with(refine J7 H.o.c rfl _ _ rfl rfl rfl Y0 ?_)
 refine(m45 A B _ b.rn.length vn ln _ n O0 O0 x l (d.o.rn.md H.o.md (by decide))).mono ?_;rintro e N⟨⟨rfl,z⟩,m⟩;have S:Hid (aQ b q vr vn->_):=λh=>z h.rn
 replace a:=U0 (λh=>(a h).md m (by decide))
 replace F2:=U0 (λh=>(F2 h).md m (by decide))
 replace f:=U0 (f.o.md m (by decide))
 replace i:=U0 (λh=>(i h).md m (by decide))
 replace g:=U0 (λh=>(g h).md m (by decide) (by decide))
 replace k:=U0 (k.o.md m (by decide))
 replace p:=U0 (p.o.md m (by decide))
 replace H:=U0 (H.o.go hB m)
 go_wp2_with(refine J7 H.o.c rfl _ _ rfl rfl rfl Y0 ?_)
 refine(m46 A B _ b.jb.length _ N O0 O0 v (d.o.jb.md H.o.md)).mono ?_;rintro e L⟨⟨rfl,y⟩,m⟩;have R:=U0 y;have Q:Hid (aQ b q vr vn->BM L b q vr lr vn ln):=λh=>⟨(a h).md m (by decide),(F2 h).md m (by decide),f.o.md m (by decide),(i h).md m (by decide),(g h).md m (by decide) (by decide),k.o.md m (by decide),p.o.md m (by decide),(S h).md m (by decide) (by decide),R⟩
 replace H:=U0 (H.o.go hB m)
 go_wp2;go_ret;exact⟨⟨rfl,by unfold bX;omega,Q.o⟩,H.o.fin (by decide)⟩
theorem TD{w:World}{g L:Nat}(a:Nat){t:TypeId}{ys:List Value}{l:List (Int->Value)}{K:Int}(C:Cl w g t ys)(D:∀j,j<L->ys[j]?=some (fk l j (K+(j:Int))))(e:a=L:=by simp):∀(p:Nat)(x:Value)(u:World),Bw w u->p<a->x=fk l p (K+(p:Int))->u.cell? ⟨g,p,none⟩=some x:=λp x u b c hx=>by rw[(C.below b C.lt).cell,D p (e▸c),hx]
theorem h50(v:Value)(n:Nat)(K:Int)(w:World)(h1:1<=K)(h2:K<=90000000000000)(hn:n<=1048576)(ho:Mf w 3 [mI] K v n):
 Calls prog 97 #[v,Sc Se K] w λe w'=>e=Sf (Sc Se (K+(n:Int)))/\Bw w w':=by
 obtain⟨a,cp,rfl,h⟩:=ho
 replace h:=U0 h
 go_in
 go_wp2;go_loopw[1,5] (λq i wr=>∃k:Nat,k<=n/\i=Sc Se k/\q=Sc Se (K+(k:Int))/\Below w.heap.size w wr) (λ_ i _=>n-(RowKit.intOf i).toNat);exact⟨0,Y4 _,rfl,J4,O4 _ _⟩;obtain⟨k,hk,rfl,rfl,b⟩:=hrel;by_cases hlt:k<n;rotate_left
 ·obtain rfl:k=n:=O0;go_wp2;go_ret;exact⟨rfl,b⟩
 obtain⟨g,ys,rfl,C,D⟩:=h.o.resolve_left (by omega);have c:=U0 (TD (n) C D);clear C D h;have g0:Hid (∀u,Bw wr u->u.cell? (aA g k)=some (vI (K+(k:Int)))):=λu d=>c.o _ (mI (K+(k:Int))) u (E5 b d) O0 pk1;have bw:Bw wr wr:=O4 _ _;clear c;have q0:=g0.o _ bw;go_wp2;go_roundw;exact⟨k+1,O0,by go_num,by go_num,E5 b bw⟩;exact V9
theorem h51(v:Value)(n:Nat)(K:Int)(w:World)(h1:1<=K)(h2:K<=90000000000000)(hn:n<=1048576)(ho:Mf w 9 [mT] K v n):
 Calls prog 98 #[v,Sc Se K] w λe w'=>e=Sf (Sc Se (K+(n:Int)))/\Bw w w':=by
 obtain⟨a,cp,rfl,h⟩:=ho
 replace h:=U0 h
 go_in
 go_wp2;go_loopw[1,5] (λq i wr=>∃k:Nat,k<=n/\i=Sc Se k/\q=Sc Se (K+(k:Int))/\Below w.heap.size w wr) (λ_ i _=>n-(RowKit.intOf i).toNat);exact⟨0,Y4 _,rfl,J4,O4 _ _⟩;obtain⟨k,hk,rfl,rfl,b⟩:=hrel;by_cases hlt:k<n;rotate_left
 ·obtain rfl:k=n:=O0;go_wp2;go_ret;exact⟨rfl,b⟩
 obtain⟨g,ys,rfl,C,D⟩:=h.o.resolve_left (by omega);have f:=U0 (TD (n) C D);clear C D h;have g0:Hid (∀u,Bw wr u->u.cell? (aA g k)=some (vS (U3 (109::dec (K+(k:Int)))))):=λu j=>f.o _ (mT (K+(k:Int))) u (E5 b j) O0 pk1;have bw:Bw wr wr:=O4 _ _;clear f;have h0:=λu=>c91 (K+(k:Int)) u O0 O0;generalize U3 (109::dec (K+(k:Int)))=m0 at*
 go_wp2_with fail
 have hd:Bw wr wr.drew:=(O4 _ _).drew;refine wp_region_held_drew (S:=λu=>u.cell? (aA g k)=some (vS m0)) Y0 (g0 _ (E5 bw hd)) λhH=>?_
 iterate 5 refine sq ?_
 refine rq 5 λK d=>?_;go_simp;refine(h0 _).mono ?_;rintro e w0⟨rfl,c⟩
 replace bw:=E5 bw (hd.trans (c.mono A8))
 clear hd c h0
 go_wp2_with fail
 refine G9 d (g0 _ bw) λhH=>?_;clear d K;refine sq ?_;refine wdn ?_;go_wp2;go_roundw;exact⟨k+1,O0,by go_num,by go_num,E5 b bw⟩;exact V9
theorem a6o(v:Value)(n:Nat)(K:Int)(w:World)(h1:1<=K)(h2:K<=90000000000000)(hn:n<=1048576)(ho:Mf w 169 [mT,mT] K v n):
 Calls prog 102 #[v,Sc Se K] w λe w'=>e=Sf (Sc Se (K+2*(n:Int)))/\Bw w w':=by
 obtain⟨a,cp,rfl,h⟩:=ho
 replace h:=U0 h
 go_in
 go_wp2;go_loopw[1,5] (λq i wr=>∃k:Nat,k<=n/\i=Sc Se k/\q=Sc Se (K+2*(k:Int))/\Below w.heap.size w wr) (λ_ i _=>n-(RowKit.intOf i).toNat);exact⟨0,Y4 _,rfl,J4,O4 _ _⟩;obtain⟨k,hk,rfl,rfl,d⟩:=hrel;by_cases hlt:k<n;rotate_left
 ·obtain rfl:k=n:=O0;go_wp2;go_ret;exact⟨rfl,d⟩
 obtain⟨g,ys,rfl,C,D⟩:=h.o.resolve_left (by omega);have j:=U0 (TD (n*2) C D);clear C D h;have g0:Hid (∀u,Bw wr u->u.cell? (aA g (k*2))=some (vS (U3 (109::dec (K+2*(k:Int)))))):=λu f=>j.o _ (mT (K+2*(k:Int))) u (E5 d f) O0 (pk 0);have g1:Hid (∀u,Bw wr u->u.cell? (aA g (k*2+1))=some (vS (U3 (109::dec (K+2*(k:Int)+1))))):=λu f=>j.o _ (mT (K+2*(k:Int)+1)) u (E5 d f) O0 (pk 1);have bw:Bw wr wr:=O4 _ _;clear j;have h0:=λu=>c91 (K+2*(k:Int)) u O0 O0;generalize U3 (109::dec (K+2*(k:Int)))=m0 at*
 go_wp2_with fail
 have hd:Bw wr wr.drew:=(O4 _ _).drew;refine wp_region_held_drew (S:=λu=>u.cell? (aA g (k*2))=some (vS m0)) Y0 (g0 _ (E5 bw hd)) λhH=>?_
 iterate 6 refine sq ?_
 refine rq 6 λK c=>?_;go_simp;refine(h0 _).mono ?_;rintro e w0⟨rfl,b⟩
 replace bw:=E5 bw (hd.trans (b.mono A8))
 clear hd b h0
 go_wp2_with fail
 refine G9 c (g0 _ bw) λhH=>?_;clear c K;refine sq ?_;refine wdn ?_;have h1:=λu=>c91 (K+2*(k:Int)+1) u O0 O0;generalize U3 (109::dec (K+2*(k:Int)+1))=m1 at*
 go_wp2_with fail
 have hd:Bw w0 w0.drew:=(O4 _ _).drew;refine wp_region_held_drew (S:=λu=>u.cell? (aA g (k*2+1))=some (vS m1)) Y0 (g1 _ (E5 bw hd)) λhH=>?_
 iterate 6 refine sq ?_
 refine rq 6 λK c=>?_;go_simp;refine(h1 _).mono ?_;rintro e w1⟨rfl,b⟩
 replace bw:=E5 bw (hd.trans (b.mono A8))
 clear hd b h1
 go_wp2_with fail
 refine G9 c (g1 _ bw) λhH=>?_;clear c K;refine sq ?_;refine wdn ?_;go_wp2;go_roundw;exact⟨k+1,O0,by go_num,by go_num,E5 d bw⟩;exact V9
theorem h53(v:Value)(n:Nat)(K:Int)(w:World)(h1:1<=K)(h2:K<=90000000000000)(hn:n<=1048576)(ho:Mf w 124 [mT,mI,mI] K v n):
 Calls prog 100 #[v,Sc Se K] w λe w'=>e=Sf (Sc Se (K+3*(n:Int)))/\Bw w w':=by
 obtain⟨a,cp,rfl,h⟩:=ho
 replace h:=U0 h
 go_in
 go_wp2;go_loopw[1,5] (λq i wr=>∃k:Nat,k<=n/\i=Sc Se k/\q=Sc Se (K+3*(k:Int))/\Below w.heap.size w wr) (λ_ i _=>n-(RowKit.intOf i).toNat);exact⟨0,Y4 _,rfl,J4,O4 _ _⟩;obtain⟨k,hk,rfl,rfl,c⟩:=hrel;by_cases hlt:k<n;rotate_left
 ·obtain rfl:k=n:=O0;go_wp2;go_ret;exact⟨rfl,c⟩
 obtain⟨g,ys,rfl,C,D⟩:=h.o.resolve_left (by omega);have d:=U0 (TD (n*3) C D);clear C D h;have g0:Hid (∀u,Bw wr u->u.cell? (aA g (k*3))=some (vS (U3 (109::dec (K+3*(k:Int)))))):=λu b=>d.o _ (mT (K+3*(k:Int))) u (E5 c b) O0 (pk 0);have g1:Hid (∀u,Bw wr u->u.cell? (aA g (k*3+1))=some (vI (K+3*(k:Int)+1))):=λu b=>d.o _ (mI (K+3*(k:Int)+1)) u (E5 c b) O0 (pk 1);have g2:Hid (∀u,Bw wr u->u.cell? (aA g (k*3+2))=some (vI (K+3*(k:Int)+1+1))):=λu b=>d.o _ (mI (K+3*(k:Int)+1+1)) u (E5 c b) O0 (pk 2);have bw:Bw wr wr:=O4 _ _;clear d;have h0:=λu=>c91 (K+3*(k:Int)) u O0 O0;generalize U3 (109::dec (K+3*(k:Int)))=m0 at*
 go_wp2_with fail
 have hd:Bw wr wr.drew:=(O4 _ _).drew;refine wp_region_held_drew (S:=λu=>u.cell? (aA g (k*3))=some (vS m0)) Y0 (g0 _ (E5 bw hd)) λhH=>?_
 iterate 6 refine sq ?_
 refine rq 6 λK j=>?_;go_simp;refine(h0 _).mono ?_;rintro e w0⟨rfl,f⟩
 replace bw:=E5 bw (hd.trans (f.mono A8))
 clear hd f h0
 go_wp2_with fail
 refine G9 j (g0 _ bw) λhH=>?_;clear j K;refine sq ?_;refine wdn ?_;have q1:=g1.o _ bw;have q2:=g2.o _ bw;go_wp2;go_roundw;exact⟨k+1,O0,by go_num,by go_num,E5 c bw⟩;exact V9
theorem a6L(v:Value)(n:Nat)(K:Int)(w:World)(h1:1<=K)(h2:K<=90000000000000)(hn:n<=1048576)(ho:Mf w 235 [mB,mT,mT] K v n):
 Calls prog 195 #[v,Sc Se K] w λe w'=>e=Sf (Sc Se (K+3*(n:Int)))/\Bw w w':=by
 obtain⟨a,cp,rfl,h⟩:=ho
 replace h:=U0 h
 go_in
 go_wp2;go_loopw[1,5] (λq i wr=>∃k:Nat,k<=n/\i=Sc Se k/\q=Sc Se (K+3*(k:Int))/\Below w.heap.size w wr) (λ_ i _=>n-(RowKit.intOf i).toNat);exact⟨0,Y4 _,rfl,J4,O4 _ _⟩;obtain⟨k,hk,rfl,rfl,d⟩:=hrel;by_cases hlt:k<n;rotate_left
 ·obtain rfl:k=n:=O0;go_wp2;go_ret;exact⟨rfl,d⟩
 obtain⟨g,ys,rfl,C,D⟩:=h.o.resolve_left (by omega);have j:=U0 (TD (n*3) C D);clear C D h;have g0:Hid (∀u,Bw wr u->u.cell? (aA g (k*3))=some (.bool ((K)%3==0))):=λu b=>j.o _ (mB (K)) u (E5 d b) O0 pk3;have g1:Hid (∀u,Bw wr u->u.cell? (aA g (k*3+1))=some (vS (U3 (109::dec (K+3*(k:Int)+1))))):=λu b=>j.o _ (mT (K+3*(k:Int)+1)) u (E5 d b) O0 (pk 1);have g2:Hid (∀u,Bw wr u->u.cell? (aA g (k*3+2))=some (vS (U3 (109::dec (K+3*(k:Int)+1+1))))):=λu b=>j.o _ (mT (K+3*(k:Int)+1+1)) u (E5 d b) O0 (pk 2);have bw:Bw wr wr:=O4 _ _;clear j;have q0:=g0.o _ bw;have h1:=λu=>c91 (K+3*(k:Int)+1) u O0 O0;generalize U3 (109::dec (K+3*(k:Int)+1))=m1 at*
 go_wp2_with fail
 have hd:Bw wr wr.drew:=(O4 _ _).drew;refine wp_region_held_drew (S:=λu=>u.cell? (aA g (k*3+1))=some (vS m1)) Y0 (g1 _ (E5 bw hd)) λhH=>?_
 iterate 6 refine sq ?_
 refine rq 6 λK f=>?_;go_simp;refine(h1 _).mono ?_;rintro e w1⟨rfl,c⟩
 replace bw:=E5 bw (hd.trans (c.mono A8))
 clear hd c h1
 go_wp2_with fail
 refine G9 f (g1 _ bw) λhH=>?_;clear f K;refine sq ?_;refine wdn ?_;have h2:=λu=>c91 (K+3*(k:Int)+1+1) u O0 O0;generalize U3 (109::dec (K+3*(k:Int)+1+1))=m2 at*
 go_wp2_with fail
 have hd:Bw w1 w1.drew:=(O4 _ _).drew;refine wp_region_held_drew (S:=λu=>u.cell? (aA g (k*3+2))=some (vS m2)) Y0 (g2 _ (E5 bw hd)) λhH=>?_
 iterate 6 refine sq ?_
 refine rq 6 λK f=>?_;go_simp;refine(h2 _).mono ?_;rintro e w2⟨rfl,c⟩
 replace bw:=E5 bw (hd.trans (c.mono A8))
 clear hd c h2
 go_wp2_with fail
 refine G9 f (g2 _ bw) λhH=>?_;clear f K;refine sq ?_;refine wdn ?_;go_wp2;go_roundw;exact⟨k+1,O0,by go_num,by go_num,E5 d bw⟩;exact V9
theorem h112(v:Value)(n:Nat)(K:Int)(w:World)(h1:1<=K)(h2:K<=90000000000000)(hn:n<=1048576)(ho:Mf w 213 [mB,mT,mI,mT] K v n):
 Calls prog 101 #[v,Sc Se K] w λe w'=>e=Sf (Sc Se (K+4*(n:Int)))/\Bw w w':=by
 obtain⟨a,cp,rfl,h⟩:=ho
 replace h:=U0 h
 go_in
 go_wp2;go_loopw[1,5] (λq i wr=>∃k:Nat,k<=n/\i=Sc Se k/\q=Sc Se (K+4*(k:Int))/\Below w.heap.size w wr) (λ_ i _=>n-(RowKit.intOf i).toNat);exact⟨0,Y4 _,rfl,J4,O4 _ _⟩;obtain⟨k,hk,rfl,rfl,c⟩:=hrel;by_cases hlt:k<n;rotate_left
 ·obtain rfl:k=n:=O0;go_wp2;go_ret;exact⟨rfl,c⟩
 obtain⟨g,ys,rfl,C,D⟩:=h.o.resolve_left (by omega);have j:=U0 (TD (n*4) C D);clear C D h;have g0:Hid (∀u,Bw wr u->u.cell? (aA g (k*4))=some (.bool ((K+4*(k:Int))%3==0))):=λu b=>j.o _ (mB (K+4*(k:Int))) u (E5 c b) O0 (pk 0);have g1:Hid (∀u,Bw wr u->u.cell? (aA g (k*4+1))=some (vS (U3 (109::dec (K+4*(k:Int)+1))))):=λu b=>j.o _ (mT (K+4*(k:Int)+1)) u (E5 c b) O0 (pk 1);have g2:Hid (∀u,Bw wr u->u.cell? (aA g (k*4+2))=some (vI (K+4*(k:Int)+1+1))):=λu b=>j.o _ (mI (K+4*(k:Int)+1+1)) u (E5 c b) O0 (pk 2);have g3:Hid (∀u,Bw wr u->u.cell? (aA g (k*4+3))=some (vS (U3 (109::dec (K+4*(k:Int)+1+1+1))))):=λu b=>j.o _ (mT (K+4*(k:Int)+1+1+1)) u (E5 c b) O0 (pk 3);have bw:Bw wr wr:=O4 _ _;clear j;have q0:=g0.o _ bw;have h1:=λu=>c91 (K+4*(k:Int)+1) u O0 O0;generalize U3 (109::dec (K+4*(k:Int)+1))=m1 at*
 go_wp2_with fail
 have hd:Bw wr wr.drew:=(O4 _ _).drew;refine wp_region_held_drew (S:=λu=>u.cell? (aA g (k*4+1))=some (vS m1)) Y0 (g1 _ (E5 bw hd)) λhH=>?_
 iterate 6 refine sq ?_
 refine rq 6 λK f=>?_;go_simp;refine(h1 _).mono ?_;rintro e w1⟨rfl,d⟩
 replace bw:=E5 bw (hd.trans (d.mono A8))
 clear hd d h1
 go_wp2_with fail
 refine G9 f (g1 _ bw) λhH=>?_;clear f K;refine sq ?_;refine wdn ?_;have q2:=g2.o _ bw;have l:=λu=>c91 (K+4*(k:Int)+1+1+1) u O0 O0;generalize U3 (109::dec (K+4*(k:Int)+1+1+1))=m at*
 go_wp2_with fail
 have hd:Bw w1 w1.drew:=(O4 _ _).drew;refine wp_region_held_drew (S:=λu=>u.cell? (aA g (k*4+3))=some (vS m)) Y0 (g3 _ (E5 bw hd)) λhH=>?_
 iterate 7 refine sq ?_
 refine rq 7 λK f=>?_;go_simp;refine(l _).mono ?_;rintro e w3⟨rfl,d⟩
 replace bw:=E5 bw (hd.trans (d.mono A8))
 clear hd d l
 go_wp2_with fail
 refine G9 f (g3 _ bw) λhH=>?_;clear f K;refine sq ?_;refine wdn ?_;go_wp2;go_roundw;exact⟨k+1,O0,by go_num,by go_num,E5 c bw⟩;exact V9
theorem a4V(v:Value)(n:Nat)(vs:List Value)(ls:List Nat)(K:Int)(w:World)(h1:1<=K)(h2:K<=50000000000000)(hn:n<=1048576)(ho:MN w 179 3 1 235 [mB,mT,mT] 1 rE 2 3 K v n vs ls):
 Calls prog 143 #[v,Sc Se K] w λe w'=>e=Sf (Sc Se (kQ 2 3 ls K n))/\Bw w w':=by
 have r:=U0 ho.le;have x:=U0 ho.inn;obtain⟨a,cp,rfl,h⟩:=ho.row
 replace h:=U0 h
 go_in
 go_wp2;go_loopw[1,5] (λq i wr=>∃k:Nat,k<=n/\i=Sc Se k/\q=Sc Se (kQ 2 3 ls K k)/\Below w.heap.size w wr) (λ_ i _=>n-(RowKit.intOf i).toNat);exact⟨0,Y4 _,rfl,by rw[Dn],O4 _ _⟩;obtain⟨k,hk,rfl,rfl,b⟩:=hrel;by_cases f:k<n;rotate_left
 ·obtain rfl:k=n:=O0;go_wp2;go_ret;exact⟨rfl,b⟩
 obtain⟨g,ys,rfl,C,D⟩:=h.o.resolve_left (by omega);obtain⟨p,t⟩:=D k f
 replace C:=U0 C
 have j:=x.o k f;obtain⟨H,F,E,_⟩:=x.o k f;have s:=Qv (c:=2) (e:=3) (K:=K) r k hk;have z:=U0 (Yv 2 3 ls K k);have A:=r.o k f;rw[E]at j p;generalize ls.getD k 0=L at*;generalize kQ 2 3 ls K k=X at*
 replace s:K<=X/\X<=K+3145730*(k:Int):=s
 replace j:=U0 j
 have g0:Hid (∀u,Bw wr u->u.cell? (aA g (k*3))=some (vS (U3 (109::dec (X))))):=λu d=>((C.o.below (E5 b d) C.o.lt).cell _).trans (t 0 _ rfl);have g2:Hid (∀u,Bw wr u->u.cell? (aA g (k*3+2))=some (vS (U3 (109::dec (X+1+3*(L:Int)))))):=λu d=>((C.o.below (E5 b d) C.o.lt).cell _).trans (t 2 _ rfl);have B:Hid (∀u,Bw wr u->u.cell? (aA g (k*3+1))=some (vL H L F)):=λu d=>((C.o.below (E5 b d) C.o.lt).cell _).trans p;have bw:Bw wr wr:=O4 _ _;have h0:=λu=>c91 (X) u O0 O0;generalize U3 (109::dec (X))=m0 at*
 go_wp2_with fail
 have hd:Bw wr wr.drew:=(O4 _ _).drew;refine wp_region_held_drew (S:=λu=>u.cell? (aA g (k*3))=some (vS m0)) Y0 (g0 _ (E5 bw hd)) λhH=>?_
 iterate 6 refine sq ?_
 refine rq 6 λK m=>?_;go_simp;refine(h0 _).mono ?_;rintro e w0⟨rfl,l⟩
 replace bw:=E5 bw (hd.trans (l.mono A8))
 go_wp2_with fail
 refine G9 m (g0 _ bw) λhH=>?_;refine sq ?_;refine wdn ?_;have qi:=B.o _ bw;have hp:¬X+1+3*(L:Int)<0:=O0
 go_wp2_with fail
 refine(a6L _ L _ w0 O0 O0 A (by have h:=j.o.below (E5 b bw);rwa[show X+((1:Nat):Int)=X+1 from by omega]at h)).mono ?_;rintro e o⟨rfl,y⟩
 replace bw:=E5 bw y
 have h2:=λu=>c91 (X+1+3*(L:Int)) u O0 O0;generalize U3 (109::dec (X+1+3*(L:Int)))=m2 at*
 go_wp2_with fail
 have hd:Bw o o.drew:=(O4 _ _).drew;refine wp_region_held_drew (S:=λu=>u.cell? (aA g (k*3+2))=some (vS m2)) Y0 (g2 _ (E5 bw hd)) λhH=>?_
 iterate 6 refine sq ?_
 refine rq 6 λK m=>?_;go_simp;refine(h2 _).mono ?_;rintro e w2⟨rfl,l⟩
 replace bw:=E5 bw (hd.trans (l.mono A8))
 go_wp2_with fail
 refine G9 m (g2 _ bw) λhH=>?_;refine sq ?_;refine wdn ?_;go_wp2;go_roundw;exact⟨k+1,O0,by go_num,by rw[z.o];go_num,E5 b bw⟩;exact V9
theorem h52(v:Value)(n:Nat)(vs:List Value)(ls:List Nat)(K:Int)(w:World)(h1:1<=K)(h2:K<=50000000000000)(hn:n<=1048576)(ho:MN w 119 6 3 213 [mB,mT,mI,mT] 3 nE 5 4 K v n vs ls):
 Calls prog 99 #[v,Sc Se K] w λe w'=>e=Sf (Sc Se (kQ 5 4 ls K n))/\Bw w w':=by
 have s:=U0 ho.le;have x:=U0 ho.inn;obtain⟨a,cp,rfl,h⟩:=ho.row
 replace h:=U0 h
 go_in
 go_wp2;go_loopw[1,5] (λq i wr=>∃k:Nat,k<=n/\i=Sc Se k/\q=Sc Se (kQ 5 4 ls K k)/\Below w.heap.size w wr) (λ_ i _=>n-(RowKit.intOf i).toNat);exact⟨0,Y4 _,rfl,by rw[Dn],O4 _ _⟩;obtain⟨k,hk,rfl,rfl,d⟩:=hrel;by_cases m:k<n;rotate_left
 ·obtain rfl:k=n:=O0;go_wp2;go_ret;exact⟨rfl,d⟩
 obtain⟨g,ys,rfl,C,D⟩:=h.o.resolve_left (by omega);obtain⟨r,l⟩:=D k m
 replace C:=U0 C
 have o:=x.o k m;obtain⟨N,J,I,_⟩:=x.o k m;have t:=Qv (c:=5) (e:=4) (K:=K) s k hk;have B:=U0 (Yv 5 4 ls K k);have E:=s.o k m;rw[I]at o r;generalize ls.getD k 0=L at*;generalize kQ 5 4 ls K k=X at*
 replace t:K<=X/\X<=K+4194309*(k:Int):=t
 replace o:=U0 o
 have g0:Hid (∀u,Bw wr u->u.cell? (aA g (k*6))=some (vS (U3 (109::dec (X))))):=λu b=>((C.o.below (E5 d b) C.o.lt).cell _).trans (l 0 _ rfl);have g1:Hid (∀u,Bw wr u->u.cell? (aA g (k*6+1))=some (vI (X+1))):=λu b=>((C.o.below (E5 d b) C.o.lt).cell _).trans (l 1 _ rfl);have g2:Hid (∀u,Bw wr u->u.cell? (aA g (k*6+2))=some (vS (U3 (109::dec (X+1+1))))):=λu b=>((C.o.below (E5 d b) C.o.lt).cell _).trans (l 2 _ rfl);have g4:Hid (∀u,Bw wr u->u.cell? (aA g (k*6+4))=some (vI (X+1+1+1+4*(L:Int)))):=λu b=>((C.o.below (E5 d b) C.o.lt).cell _).trans (l 4 _ rfl);have g5:Hid (∀u,Bw wr u->u.cell? (aA g (k*6+5))=some (vS (U3 (109::dec (X+1+1+1+4*(L:Int)+1))))):=λu b=>((C.o.below (E5 d b) C.o.lt).cell _).trans (l 5 _ rfl);have H:Hid (∀u,Bw wr u->u.cell? (aA g (k*6+3))=some (vL N L J)):=λu b=>((C.o.below (E5 d b) C.o.lt).cell _).trans r;have bw:Bw wr wr:=O4 _ _;have h0:=λu=>c91 (X) u O0 O0;generalize U3 (109::dec (X))=m0 at*
 go_wp2_with fail
 have hd:Bw wr wr.drew:=(O4 _ _).drew;refine wp_region_held_drew (S:=λu=>u.cell? (aA g (k*6))=some (vS m0)) Y0 (g0 _ (E5 bw hd)) λhH=>?_
 iterate 6 refine sq ?_
 refine rq 6 λK j=>?_;go_simp;refine(h0 _).mono ?_;rintro e w0⟨rfl,f⟩
 replace bw:=E5 bw (hd.trans (f.mono A8))
 go_wp2_with fail
 refine G9 j (g0 _ bw) λhH=>?_;refine sq ?_;refine wdn ?_;have q1:=g1.o _ bw;have h2:=λu=>c91 (X+1+1) u O0 O0;generalize U3 (109::dec (X+1+1))=m2 at*
 go_wp2_with fail
 have hd:Bw w0 w0.drew:=(O4 _ _).drew;refine wp_region_held_drew (S:=λu=>u.cell? (aA g (k*6+2))=some (vS m2)) Y0 (g2 _ (E5 bw hd)) λhH=>?_
 iterate 6 refine sq ?_
 refine rq 6 λK j=>?_;go_simp;refine(h2 _).mono ?_;rintro e y⟨rfl,f⟩
 replace bw:=E5 bw (hd.trans (f.mono A8))
 go_wp2_with fail
 refine G9 j (g2 _ bw) λhH=>?_;refine sq ?_;refine wdn ?_;have qi:=H.o _ bw;have hp:¬X+1+1+1+4*(L:Int)<0:=O0
 go_wp2_with fail
 refine(h112 _ L _ y O0 O0 E (by have h:=o.o.below (E5 d bw);rwa[show X+((3:Nat):Int)=X+1+1+1 from by omega]at h)).mono ?_;rintro e p⟨rfl,A⟩
 replace bw:=E5 bw A
 have q4:=g4.o _ bw;have F:=λu=>c91 (X+1+1+1+4*(L:Int)+1) u O0 O0;generalize U3 (109::dec (X+1+1+1+4*(L:Int)+1))=z at*
 go_wp2_with fail
 have hd:Bw p p.drew:=(O4 _ _).drew;refine wp_region_held_drew (S:=λu=>u.cell? (aA g (k*6+5))=some (vS z)) Y0 (g5 _ (E5 bw hd)) λhH=>?_
 iterate 7 refine sq ?_
 refine rq 7 λK j=>?_;go_simp;refine(F _).mono ?_;rintro e w5⟨rfl,f⟩
 replace bw:=E5 bw (hd.trans (f.mono A8))
 go_wp2_with fail
 refine G9 j (g5 _ bw) λhH=>?_;refine sq ?_;refine wdn ?_;go_wp2;go_roundw;exact⟨k+1,O0,by go_num,by rw[B.o];go_num,E5 d bw⟩;exact V9
theorem h47(v1 v2:Value)(n m:Nat)(K:Int)(w:World)(h1:1<=K)(h2:K<=80000000000000)(c:n<=1048576)(hm:m<=1048576)(ho:Mf w 9 [mT] K v1 n)(hl:Mf w 9 [mT] (K+(n:Int)) v2 m):
 Calls prog 94 #[.agg #[v1,v2],Sc Se K] w λe w'=>e=Sf (Sc Se (K+(n:Int)+(m:Int)))/\Bw w w':=by
 have f:=U0 ho;have d:=U0 hl
 go_in
 go_upto_region 1 with fail
 have C:=U0 (I4 w [v1,v2] 37);have a:=U0 (U6 (w:=w) (o:=.cells [v1,v2].toArray 37));generalize w.alloc (.cells [v1,v2].toArray 37)=V at*
 go_wp2_with(refine J7 C.o rfl _ _ rfl rfl rfl Y0 ?_)
 refine(h51 _ n K V h1 O0 c (f.o.below a)).mono ?_;rintro e V1⟨rfl,b⟩
 replace C:=U0 (C.o.below b C.o.lt)
 replace a:=U0 (E5 a b)
 have hp1:¬K+(n:Int)<0:=O0
 go_wp2_with(refine J7 C.o rfl _ _ rfl rfl rfl Y0 ?_)
 refine(h51 _ m _ V1 O0 O0 hm (d.o.below a)).mono ?_;rintro e V2⟨rfl,b⟩
 replace C:=U0 (C.o.below b C.o.lt)
 replace a:=U0 (E5 a b)
 have hp2:¬K+(n:Int)+(m:Int)<0:=O0;go_wp2;go_ret;exact⟨rfl,a⟩
theorem h48(v:Value)(n:Nat)(K:Int)(w:World)(h1:1<=K)(h2:K<=80000000000000)(c:n<=1048576)(ho:Mf w 169 [mT,mT] K v n):
 Calls prog 95 #[.agg #[v],Sc Se K] w λe w'=>e=Sf (Sc Se (K+2*(n:Int)))/\Bw w w':=by
 have d:=U0 ho
 go_in
 go_upto_region 1 with fail
 have C:=U0 (I4 w [v] 40);have a:=U0 (U6 (w:=w) (o:=.cells [v].toArray 40));generalize w.alloc (.cells [v].toArray 40)=V at*
 go_wp2_with(refine J7 C.o rfl _ _ rfl rfl rfl Y0 ?_)
 refine(a6o _ n K V h1 O0 c (d.o.below a)).mono ?_;rintro e V1⟨rfl,b⟩
 replace C:=U0 (C.o.below b C.o.lt)
 replace a:=U0 (E5 a b)
 have hp1:¬K+2*(n:Int)<0:=O0;go_wp2;go_ret;exact⟨rfl,a⟩
theorem h49(tv rv:Value)(n k:Nat)(vr:List Value)(lr:List Nat)(wd K:Int)(w:World)(h1:1<=K)(h2:K<=40000000000000)(d:n<=1048576)(hk:k<=1048576)(ho:Mf w 9 [mT] K tv n)(hl:MN w 179 3 1 235 [mB,mT,mT] 1 rE 2 3 (K+(n:Int)) rv k vr lr):
 Calls prog 96 #[.agg #[Sc Se wd,tv,rv],Sc Se K] w λe w'=>e=Sf (Sc Se (kQ 2 3 lr (K+(n:Int)) k))/\Bw w w':=by
 have g:=U0 ho;have f:=U0 hl;have kr:=(Qv (c:=2) (e:=3) (K:=K+(n:Int)) hl.le k (Y7 _)).1
 go_in
 go_upto_region 1 with fail
 have C:=U0 (I4 w [vI wd,tv,rv] 43);have a:=U0 (U6 (w:=w) (o:=.cells [vI wd,tv,rv].toArray 43));generalize w.alloc (.cells [vI wd,tv,rv].toArray 43)=V at*
 go_wp2_with(refine J7 C.o rfl _ _ rfl rfl rfl Y0 ?_)
 refine(h51 _ n K V h1 O0 d (g.o.below a)).mono ?_;rintro e V1⟨rfl,b⟩
 replace C:=U0 (C.o.below b C.o.lt)
 replace a:=U0 (E5 a b)
 have hp1:¬K+(n:Int)<0:=O0
 go_wp2_with(refine J7 C.o rfl _ _ rfl rfl rfl Y0 ?_)
 refine(a4V _ k vr lr _ V1 O0 O0 hk (f.o.below a)).mono ?_;rintro e V2⟨rfl,b⟩
 replace C:=U0 (C.o.below b C.o.lt)
 replace a:=U0 (E5 a b)
 have hp2:¬kQ 2 3 lr (K+(n:Int)) k<0:=O0;go_wp2;go_ret;exact⟨rfl,a⟩
theorem h10(b:Bs)(q:Ba)(vr:List Value)(lr:List Nat)(vn:List Value)(ln:List Nat)(w:World)(hl:lg b 1048576)(ho:BM w b q vr lr vn ln):
 Calls prog 52 #[.agg (bsV b q).toArray,Sc Se 1] w λe w'=>e=Sf (Sc Se (bX b lr ln))/\Bw w w':=by
 have n1:=hl.sl;have n2:=hl.ll;have n3:=hl.fl;have n4:=hl.st.1.1;have n5:=hl.st.2.1;have n6:=hl.hl;have n7:=hl.rl;have k:=hl.nl;have i:=hl.jl;have h:=Qv (c:=2) (e:=3) (K:=(1+(b.sf.length:Int)+(b.lo.length:Int)+2*(b.fs.length:Int)+(b.s.ts.length:Int))) ho.rs.le _ (Y7 _);have g:=Qv (c:=5) (e:=4) (K:=((kQ 2 3 lr (1+(b.sf.length:Int)+(b.lo.length:Int)+2*(b.fs.length:Int)+(b.s.ts.length:Int)) b.s.rs.length)+(b.hd.length:Int)+(b.rt.length:Int))) ho.rn.le _ (Y7 _)
 replace h:(1+(b.sf.length:Int)+(b.lo.length:Int)+2*(b.fs.length:Int)+(b.s.ts.length:Int))<=(kQ 2 3 lr (1+(b.sf.length:Int)+(b.lo.length:Int)+2*(b.fs.length:Int)+(b.s.ts.length:Int)) b.s.rs.length)/\(kQ 2 3 lr (1+(b.sf.length:Int)+(b.lo.length:Int)+2*(b.fs.length:Int)+(b.s.ts.length:Int)) b.s.rs.length)<=(1+(b.sf.length:Int)+(b.lo.length:Int)+2*(b.fs.length:Int)+(b.s.ts.length:Int))+3145730*(b.s.rs.length:Int):=h
 replace g:((kQ 2 3 lr (1+(b.sf.length:Int)+(b.lo.length:Int)+2*(b.fs.length:Int)+(b.s.ts.length:Int)) b.s.rs.length)+(b.hd.length:Int)+(b.rt.length:Int))<=(kQ 5 4 ln ((kQ 2 3 lr (1+(b.sf.length:Int)+(b.lo.length:Int)+2*(b.fs.length:Int)+(b.s.ts.length:Int)) b.s.rs.length)+(b.hd.length:Int)+(b.rt.length:Int)) b.rn.length)/\(kQ 5 4 ln ((kQ 2 3 lr (1+(b.sf.length:Int)+(b.lo.length:Int)+2*(b.fs.length:Int)+(b.s.ts.length:Int)) b.s.rs.length)+(b.hd.length:Int)+(b.rt.length:Int)) b.rn.length)<=((kQ 2 3 lr (1+(b.sf.length:Int)+(b.lo.length:Int)+2*(b.fs.length:Int)+(b.s.ts.length:Int)) b.s.rs.length)+(b.hd.length:Int)+(b.rt.length:Int))+4194309*(b.rn.length:Int):=g
 have f:=U0 ho
 go_in
 go_upto_region 1 with fail
 have C:=U0 (I4 w (bsV b q) 47);have a:=U0 (U6 (w:=w) (o:=Sg (bsV b q).toArray 47));generalize w.alloc (Sg (bsV b q).toArray 47)=V at*
 go_wp2_with(first|(refine D9 C.o rfl 37 _ rfl (j:=5) [vL q.sa b.sf.length q.sc,vL q.la b.lo.length q.lc] rfl rfl underlying37 rfl Y0 ?_)|(refine J7 C.o rfl _ _ rfl rfl rfl Y0 ?_))
 refine(h47 _ _ b.sf.length b.lo.length 1 V O0 O0 n1 n2 (f.o.below a).sf (f.o.below a).lo).mono ?_;rintro e V1⟨rfl,d⟩
 replace C:=U0 (C.o.below d C.o.lt)
 replace a:=U0 (E5 a d)
 have hp1:¬1+(b.sf.length:Int)+(b.lo.length:Int)<0:=O0
 go_wp2_with(first|(refine D9 C.o rfl 40 _ rfl (j:=7) [vL q.fa b.fs.length q.fc] rfl rfl underlying40 rfl Y0 ?_)|(refine J7 C.o rfl _ _ rfl rfl rfl Y0 ?_))
 refine(h48 _ b.fs.length _ V1 O0 O0 n3 (f.o.below a).fs).mono ?_;rintro e r⟨rfl,d⟩
 replace C:=U0 (C.o.below d C.o.lt)
 replace a:=U0 (E5 a d)
 have hp2:¬1+(b.sf.length:Int)+(b.lo.length:Int)+2*(b.fs.length:Int)<0:=O0
 go_wp2_with(first|(refine D9 C.o rfl 43 _ rfl (j:=8) [vI b.s.wd,vL q.ta b.s.ts.length q.tc,vL q.ra b.s.rs.length q.rc] rfl rfl underlying43 rfl Y0 ?_)|(refine J7 C.o rfl _ _ rfl rfl rfl Y0 ?_))
 refine(h49 _ _ b.s.ts.length b.s.rs.length vr lr b.s.wd _ r O0 O0 n4 n5 (f.o.below a).ts (f.o.below a).rs).mono ?_;rintro e p⟨rfl,d⟩
 replace C:=U0 (C.o.below d C.o.lt)
 replace a:=U0 (E5 a d)
 have hp3:¬kQ 2 3 lr (1+(b.sf.length:Int)+(b.lo.length:Int)+2*(b.fs.length:Int)+(b.s.ts.length:Int)) b.s.rs.length<0:=O0
 go_wp2_with(refine J7 C.o rfl _ _ rfl rfl rfl Y0 ?_)
 refine(h50 _ b.hd.length _ p O0 O0 n6 (f.o.below a).hd).mono ?_;rintro e n⟨rfl,d⟩
 replace C:=U0 (C.o.below d C.o.lt)
 replace a:=U0 (E5 a d)
 have hp4:¬(kQ 2 3 lr (1+(b.sf.length:Int)+(b.lo.length:Int)+2*(b.fs.length:Int)+(b.s.ts.length:Int)) b.s.rs.length)+(b.hd.length:Int)<0:=O0
 go_wp2_with(refine J7 C.o rfl _ _ rfl rfl rfl Y0 ?_)
 refine(h51 _ b.rt.length _ n O0 O0 n7 (f.o.below a).rt).mono ?_;rintro e m⟨rfl,d⟩
 replace C:=U0 (C.o.below d C.o.lt)
 replace a:=U0 (E5 a d)
 have hp5:¬(kQ 2 3 lr (1+(b.sf.length:Int)+(b.lo.length:Int)+2*(b.fs.length:Int)+(b.s.ts.length:Int)) b.s.rs.length)+(b.hd.length:Int)+(b.rt.length:Int)<0:=O0
 go_wp2_with(refine J7 C.o rfl _ _ rfl rfl rfl Y0 ?_)
 refine(h52 _ b.rn.length vn ln _ m O0 O0 k (f.o.below a).rn).mono ?_;rintro e l⟨rfl,d⟩
 replace C:=U0 (C.o.below d C.o.lt)
 replace a:=U0 (E5 a d)
 have hp6:¬kQ 5 4 ln ((kQ 2 3 lr (1+(b.sf.length:Int)+(b.lo.length:Int)+2*(b.fs.length:Int)+(b.s.ts.length:Int)) b.s.rs.length)+(b.hd.length:Int)+(b.rt.length:Int)) b.rn.length<0:=O0
 go_wp2_with(refine J7 C.o rfl _ _ rfl rfl rfl Y0 ?_)
 refine(h53 _ b.jb.length _ l O0 O0 i (f.o.below a).jb).mono ?_;rintro e V7⟨rfl,d⟩
 replace C:=U0 (C.o.below d C.o.lt)
 replace a:=U0 (E5 a d)
 have hp7:¬kQ 5 4 ln ((kQ 2 3 lr (1+(b.sf.length:Int)+(b.lo.length:Int)+2*(b.fs.length:Int)+(b.s.ts.length:Int)) b.s.rs.length)+(b.hd.length:Int)+(b.rt.length:Int)) b.rn.length+3*(b.jb.length:Int)<0:=O0;go_wp2;go_ret;exact⟨rfl,a⟩
