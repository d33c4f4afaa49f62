import Derived.Test.YtmalddmgdjkgaaaGreatDoorZ20
import Derived.Test.YtmalddmgdjkgaaaGreatDoorZ27
import Derived.Test.YtmalddmgdjkgaaaGreatDoorZ26
namespace Go.Proofs.YtmalddmgdjkgaaaGreatDoor
open Go.RowKit
theorem cst_fold_no {b:UInt8} {l:List UInt8} (h:b∉l) (P:List (List UInt8)) (q:List UInt8):l.foldl (cst b) (P,q)=(P,q++l):=by
 induction l generalizing q with
 | nil=>simp
 | cons c l ih=>
  have hc:c≠b:=fun e=>h (by simp [e])
  rw [List.foldl_cons]
  have:cst b (P,q) c=(P,q++[c]):=by unfold cst;rw [if_neg hc]
  rw [this,ih (fun hm=>h (List.mem_cons_of_mem _ hm)),List.append_assoc];rfl
theorem cst_fold_pre (b:UInt8) (l:List UInt8) (P Q:List (List UInt8)) (q:List UInt8):l.foldl (cst b) (P++Q,q)=(P++(l.foldl (cst b) (Q,q)).1,(l.foldl (cst b) (Q,q)).2):=by
 induction l generalizing Q q with
 | nil=>rfl
 | cons c l ih=>
  rw [List.foldl_cons,List.foldl_cons]
  by_cases hc:c=b
  · have e1:cst b (P++Q,q) c=(P++(Q++[q]),[]):=by unfold cst;rw [if_pos hc,List.append_assoc]
    have e2:cst b (Q,q) c=(Q++[q],[]):=by unfold cst;rw [if_pos hc]
    rw [e1,e2,ih]
  have e1:cst b (P++Q,q) c=(P++Q,q++[c]):=by unfold cst;rw [if_neg hc]
  have e2:cst b (Q,q) c=(Q,q++[c]):=by unfold cst;rw [if_neg hc]
  rw [e1,e2,ih]
theorem cut_no {b:UInt8} {l:List UInt8} (h:b∉l):cutS b l=[l]:=by
 unfold cutS cstate
 rw [cst_fold_no h];rfl
theorem cut_hit {b:UInt8} {a r:List UInt8} (h:b∉a):cutS b (a++b::r)=a::cutS b r:=by
 unfold cutS cstate
 rw [List.foldl_append,cst_fold_no h,List.foldl_cons]
 have e:cst b ([],[]++a) b=([a]++[],[]):=by unfold cst;rw [if_pos rfl];simp
 rw [e,cst_fold_pre]
 simp
theorem idx_10 (l:List UInt8):(Lib.index l [10]=-1∧(10:UInt8)∉l)∨(∃ i:Nat,Lib.index l [10]=i∧i<l.length∧l=l.take i++10::l.drop (i+1)∧(10:UInt8)∉l.take i):=by
 rw [Lib.index_one]
 have hge:=Lib.indexByte_ge l 10
 by_cases h:Lib.indexByte l 10=-1
 · refine .inl ⟨h,fun hm=>?_⟩
   obtain ⟨k,hk,e⟩:=List.getElem_of_mem hm
   exact Lib.indexByte_none h k (by rw [List.getElem?_eq_getElem hk,e])
 obtain ⟨o,ho⟩:∃ o:Nat,Lib.indexByte l 10=o:=⟨(Lib.indexByte l 10).toNat,by omega⟩
 obtain ⟨h1,h2⟩:=Lib.indexByte_some ho
 have hl:o<l.length:=by
  rcases Nat.lt_or_ge o l.length with h | h
  · exact h
  rw [List.getElem?_eq_none h] at h1;cases h1
 refine .inr ⟨o,ho,hl,?_,fun hm=>?_⟩
 · have hx:l[o]=10:=by rw [List.getElem?_eq_getElem hl] at h1;exact Option.some.inj h1
   conv=>lhs;rw [← List.take_append_drop o l,List.drop_eq_getElem_cons hl,hx]
 obtain ⟨k,hk,e⟩:=List.getElem_of_mem hm
 rw [List.length_take] at hk
 rw [List.getElem_take] at e
 exact h2 k (by omega) (by rw [List.getElem?_eq_getElem (by omega),e])
theorem split_10 (f:Nat):∀ l:List UInt8,l.length<f→Lib.splitK [10] 0 (Lib.countFrom [10] f l) l=cutS 10 l∧(cutS 10 l).length=Lib.countFrom [10] f l+1:=by
 induction f with
 | zero=>intro l h;omega
 | succ f ih=>
  intro l h
  rcases idx_10 l with ⟨hi,hn⟩ | ⟨i,hi,hl,he,hn⟩
  · have hc:Lib.countFrom [10] (f+1) l=0:=by rw [Lib.countFrom,hi];rfl
    rw [hc,cut_no hn]
    exact ⟨rfl,rfl⟩
  have hne:¬ ((i:Int)==-1)=true:=fun e=>by have:=beq_iff_eq.1 e;omega
  obtain ⟨h1,h2⟩:=ih (l.drop (i+1)) (by rw [List.length_drop];omega)
  have hc:Lib.countFrom [10] (f+1) l=Lib.countFrom [10] f (l.drop (i+1))+1:=by
   rw [Lib.countFrom,hi,if_neg hne,Nat.add_comm];rfl
  have hcut:cutS 10 l=l.take i::cutS 10 (l.drop (i+1)):=by
   conv=>lhs;rw [he]
   exact cut_hit hn
  rw [hc,hcut]
  refine ⟨?_,by rw [List.length_cons,h2]⟩
  rw [Lib.splitK,hi,if_neg hne,← h1]
  rfl
theorem c151 (s:ByteArray) (w:World) (hs:s.size≤1048700) (hm:MaxAt w):
 Calls Tryz.prog 151 #[.string s,.string ⟨#[10]⟩] w fun e w'=>(e=.returned (.slice (some ⟨w.heap.size,0,none⟩) (cutS 10 s.data.toList).length (cutS 10 s.data.toList).length)∧LinesAt w' w.heap.size (cutS 10 s.data.toList))∧Below w.heap.size w w':=by
 obtain ⟨_,m,hm⟩:=hm
 obtain ⟨h1,h2⟩:=split_10 (s.data.toList.length+1) s.data.toList (by omega)
 have hd:Lib.splitB ⟨#[10]⟩ 0 (Lib.countB s ⟨#[10]⟩) s=(cutS 10 s.data.toList).map ofL:=toL_inj ((Lib.splitB_data ⟨#[10]⟩ 0 (Lib.countB s ⟨#[10]⟩) s).trans h1)
 have hc:Lib.countB s ⟨#[10]⟩+1=(cutS 10 s.data.toList).length:=h2.symm
 refine (Tryz.strings_Split s ⟨#[10]⟩ m w (by omega) hm (by decide)).mono ?_
 rintro e w' ⟨rfl,rfl⟩
 rw [hd,hc]
 refine ⟨⟨rfl,by simp,fun i hi=>?_⟩,(Below.refl _ _).alloc (Nat.le_refl _) _⟩
 simp [hi]
end Go.Proofs.YtmalddmgdjkgaaaGreatDoor
namespace Go.Proofs.YtmalddmgdjkgaaaGreatDoor.G
open Go.RowKit
open T (F2 f2z treeOk Asc)
def planA:ByteArray:=⟨#[112,108,97,110]⟩
def Free (fs:List F2) (nm:ByteArray):Prop:=∀ j,j<fs.length→(fs.getD j f2z).nm≠nm
def FreeAll (fs:List F2) (ms:List M3):Prop:=∀ i,i<ms.length→Free fs (ms.getD i m3z).nm
def IsPT (fs:List F2) (ms:List M3):Prop:=
 (¬ treeOk fs∧ms=[])∨(treeOk fs∧Free fs planA∧ms=[])∨
 (treeOk fs∧∃ i,i<fs.length∧(fs.getD i f2z).nm=planA∧∃ ks ok,IsPlan (fs.getD i f2z).tx.data.toList ks ok∧((ok=true∧FreeAll fs ks∧ms=ks)∨(¬ (ok=true∧FreeAll fs ks)∧ms=[])))
theorem name_once {fs:List F2} (h:treeOk fs) {i j:Nat} (hi:i<fs.length) (hj:j<fs.length) (e:(fs.getD i f2z).nm=(fs.getD j f2z).nm):i=j:=by
 have hm:=T.asc_of h
 rcases Nat.lt_trichotomy i j with h1 | h1 | h1
 · have:=hm i j h1 hj
   rw [e,T.lt_irrefl'] at this;cases this
 · exact h1
 have:=hm j i h1 hi
 rw [e,T.lt_irrefl'] at this;cases this
theorem isPT_one {fs:List F2} {ms ns:List M3} (h:IsPT fs ms) (k:IsPT fs ns):ms=ns:=by
 rcases h with ⟨h1,rfl⟩ | ⟨h1,h2,rfl⟩ | ⟨h1,i,hi,hn,ks,ok,hp,hr⟩
 · rcases k with ⟨_,rfl⟩ | ⟨k1,_⟩ | ⟨k1,_⟩
   · rfl
   · exact absurd k1 h1
   exact absurd k1 h1
 · rcases k with ⟨k1,_⟩ | ⟨_,_,rfl⟩ | ⟨_,j,hj,hk,_⟩
   · exact absurd h1 k1
   · rfl
   exact absurd hk (h2 j hj)
 rcases k with ⟨k1,_⟩ | ⟨_,k2,_⟩ | ⟨_,j,hj,hk,ks',ok',hp',hr'⟩
 · exact absurd h1 k1
 · exact absurd hn (k2 i hi)
 obtain rfl:=name_once h1 hi hj (hn.trans hk.symm)
 obtain ⟨rfl,rfl⟩:=isPlan_one hp hp'
 rcases hr with ⟨a1,a2,rfl⟩ | ⟨a1,rfl⟩
 · rcases hr' with ⟨_,_,rfl⟩ | ⟨b1,_⟩
   · rfl
   exact absurd ⟨a1,a2⟩ b1
 rcases hr' with ⟨b1,b2,_⟩ | ⟨_,rfl⟩
 · exact absurd ⟨b1,b2⟩ a1
 rfl
theorem isPlan_len {l:List UInt8} {ms:List M3} {ok:Bool} (h:IsPlan l ms ok):ms.length≤300∧∀ i,(ms.getD i m3z).le 300:=by
 cases ok
 · rw [(h.2 rfl).1]
   exact ⟨Nat.zero_le _,fun i=>⟨Nat.zero_le _,Nat.zero_le _,Nat.zero_le _⟩⟩
 obtain ⟨h1,h2,h3⟩:=h.1 rfl
 have:=lines_ge ms
 rw [h2] at this
 exact ⟨by omega,getD_smallM fun i hi=>okM_le (getM_ok (plan_all h1) hi)⟩
theorem isPT_len {fs:List F2} {ms:List M3} (h:IsPT fs ms):ms.length≤300:=by
 rcases h with ⟨_,rfl⟩ | ⟨_,_,rfl⟩ | ⟨_,i,hi,hn,ks,ok,hp,hr⟩
 · exact Nat.zero_le _
 · exact Nat.zero_le _
 rcases hr with ⟨_,_,rfl⟩ | ⟨_,rfl⟩
 · exact (isPlan_len hp).1
 exact Nat.zero_le _
end Go.Proofs.YtmalddmgdjkgaaaGreatDoor.G
