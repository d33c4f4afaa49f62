import Derived.Shelf.Strings.Cut
import Derived.Deep.RegionHeld3
import Derived.Maps.OwnSet
import Derived.Maps.Ext
import Derived.Sort.KeysCollected
import Derived.Lib.SlKeysI
import Derived.Lib.SlMapMerge
import Derived.Shelf.SlIter.Nil
import Derived.Shelf.SlIterI.Nil
import Derived.Shelf.SortM.Plain
import Derived.Shelf.SortM.SortNone
import Derived.Ground.GgzProg
import Derived.Ground.SlgmProg
import Derived.Test.YtkdbheidpdjimaaGreatDoorB6
import Derived.Lib.IndexLaws
set_option linter.unusedVariables false
set_option maxHeartbeats 8000000
set_option maxRecDepth 100000
namespace Go.Proofs
open Go.Shelf
def Tryz.TG:Go.Shelf.Ren:=⟨fun | 145=>167 | 220=>211 | 219=>246 | 217=>260 | 225=>261 | 224=>262 | 267=>263 | 266=>289 | 314=>290 | n => n, fun | 9=>9 | 4=>4 | 59=>260 | 3=>3 | 5=>5 | 46=>290 | 146=>338 | 51=>337 | n => n, fun | 1=>5 | n=>n⟩
theorem Tryz.lays145:Go.Proofs.Lays.n145 prog Tryz.TG:={
 mixed:=J3
 f145:=func167.trans (P5 some J3)
 f217:=func260.trans (P5 some J3)
 f219:=func246.trans (P5 some J3)
 f220:=func211.trans (P5 some J3)
 f224:=func262.trans (P5 some J3)
 f225:=func261.trans (P5 some J3)
 f266:=func289.trans (P5 some J3)
 f267:=func263.trans (P5 some J3)
 f314:=func290.trans (P5 some J3)
 t3:=underlying3
 a3:=Tryz.isAgg3
 z3:=Tryz.sizeOf3
 v3:=Tryz.zeroValue3
 t4:=underlying4
 a4:=Tryz.isAgg4
 z4:=Tryz.sizeOf4
 v4:=Tryz.zeroValue4
 t5:=underlying5
 a5:=Tryz.isAgg5
 z5:=Tryz.sizeOf5
 v5:=Tryz.zeroValue5
 t9:=underlying9
 a9:=Tryz.isAgg9
 z9:=Tryz.sizeOf9
 v9:=Tryz.zeroValue9
 t46:=underlying290
 a46:=Tryz.isAgg290
 z46:=Tryz.sizeOf290
 v46:=Tryz.zeroValue290
 t51:=underlying337
 a51:=Tryz.isAgg337
 z51:=Tryz.sizeOf337
 v51:=Tryz.zeroValue337
 t59:=underlying260
 a59:=Tryz.isAgg260
 z59:=Tryz.sizeOf260
 v59:=Tryz.zeroValue260
 t146:=underlying338
 a146:=Tryz.isAgg338
 z146:=Tryz.sizeOf338
 v146:=Tryz.zeroValue338
 g1:=by kernel_rfl }
theorem Tryz.strings_Cut (s a:BY) (m:Int) (w:World) (b:s.size<4294967281) (hm:w.cell? ⟨5,0,none⟩=some (.int .i64 m)):
 Calls prog 167 #[.string s,.string a] w fun e w'=>e=.returned (.tuple #[.string ⟨(Lib.cut s.data.toList a.data.toList).1.toArray⟩,.string ⟨(Lib.cut s.data.toList a.data.toList).2.1.toArray⟩,.bool (Lib.cut s.data.toList a.data.toList).2.2])/\∃ n,w'=w.drewN n:=Any.strings_Cut Tryz.lays145 s a m w b hm
end Go.Proofs
namespace Go.Proofs.YtkdbheidpdjimaaGreatDoor
variable {P:Program} {ops:Array Oper} {Q:Exit->Act->World->Prop} {md:Region.Mode} {S:World->Prop} {fuel i:Nat} {listed:Array Bool} {a:Act} {w:World} {oi:Oper} {v:Value} {d:Option Nat} {op:Op} {ty:TypeId} {p:String} {af:Array Edge} {g:Option (Nat×Bool)}
theorem qq:(∀ (a:Act) (d:Nat) (v:Value),a.put (some d) v={ a with tmps:=a.tmps.setIfInBounds d v })/\(∀ (a:Act) (v:Value),a.put none v=a)/\(∀ {α:Type} (l:List α) (i:Nat) (a:α),l.toArray.setIfInBounds i a=(l.set i a).toArray)/\(∀ {α:Type} (x:α) (l:List α) (a:α),(x::l).set 0 a=a::l)/\∀ {α:Type} (x:α) (l:List α) (i:Nat) (a:α),(x::l).set (i+1) a=x::l.set i a:=⟨fun _ _ _=>rfl,fun _ _=>rfl,fun _ _ _=>List.setIfInBounds_toArray ..,fun _ _ _=>rfl,fun _ _ _ _=>rfl⟩
theorem rd {o:Oper} (ho:ops[i]?=some o) (hr:Region.ready md ops listed=[i]) (h:∀ b:Act->World->Prop,Shut (∀ a w,S w->(S w->wpAnyH P md ops Q S fuel (listed.setIfInBounds i true) a w)->b a w)->if Region.wanted o (yielded ops a.tmps)=true then Oper.wp P o a w b Q else b (a.put o.dst undef) w):wpAnyH P md ops Q S (fuel+1) listed a w:=wpAnyH_ready hr I4 (AllReadyH.cons ho h AllReadyH.nil)
theorem tk (d:ops[i]?=some oi) (b:(Region.noSelect ops&&Region.free md ops listed i&&(Region.ready md ops listed).contains i)=true) (hw:Region.wanted oi (yielded ops a.tmps)=true) (hv:∀ u,S u->(execOp a.eval oi).run P u=.ok (.value v) u) (e:S w) (h:wpAnyH P md ops Q S fuel (listed.setIfInBounds i true) (a.put oi.dst v) w) (hQ:∀ c a w,Q (.panic c) (a.put oi.dst v) w->Q (.panic c) a w:=by exact fun _ _ _ h=>h):wpAnyH P md ops Q S (fuel+1) listed a w:=by
 simp only [Fa] at b;exact wpAnyH_take d b.1.1 b.1.2 b.2 hQ (.inl ⟨hw,hv⟩) e h
theorem tu (d:ops[i]?=some oi) (b:(Region.noSelect ops&&Region.free md ops listed i&&(Region.ready md ops listed).contains i)=true) (hw:Region.wanted oi (yielded ops a.tmps)=false) (e:S w) (h:wpAnyH P md ops Q S fuel (listed.setIfInBounds i true) (a.put oi.dst undef) w) (hQ:∀ c a w,Q (.panic c) (a.put oi.dst undef) w->Q (.panic c) a w:=by exact fun _ _ _ h=>h):wpAnyH P md ops Q S (fuel+1) listed a w:=by
 simp only [Fa] at b;exact wpAnyH_take d b.1.1 b.1.2 b.2 hQ (.inr ⟨hw,rfl⟩) e h
theorem tq (i:Nat) (f:S w) (h:wpAnyH P md ops Q S fuel (listed.setIfInBounds i true) (a.put d v) w) (b:ops[i]?=some ⟨d,op,ty,p,af,g⟩:=by exact rfl) (e:(Region.noSelect ops&&Region.free md ops listed i&&(Region.ready md ops listed).contains i)=true:=by kernel_rfl) (hw:Region.wanted ⟨d,op,ty,p,af,g⟩ (yielded ops a.tmps)=true:=by exact rfl) (hv:∀ u,S u->(execOp a.eval ⟨d,op,ty,p,af,g⟩).run P u=.ok (.value v) u:=by intro wq hSw;(try dsimp only at hSw);go_simp;try with_reducible rfl) (hQ:∀ c a w,Q (.panic c) (a.put d v) w->Q (.panic c) a w:=by first | exact fun _ _ _ h=>h | exact fun _ _ _ h=>hQ _ _ _ _ _ h):wpAnyH P md ops Q S (fuel+1) listed a w:=tk b e hw hv f h hQ
theorem uq (i:Nat) (f:S w) (h:wpAnyH P md ops Q S fuel (listed.setIfInBounds i true) (a.put d undef) w) (b:ops[i]?=some ⟨d,op,ty,p,af,g⟩:=by exact rfl) (e:(Region.noSelect ops&&Region.free md ops listed i&&(Region.ready md ops listed).contains i)=true:=by kernel_rfl) (hw:Region.wanted ⟨d,op,ty,p,af,g⟩ (yielded ops a.tmps)=false:=by exact rfl) (hQ:∀ c a w,Q (.panic c) (a.put d undef) w->Q (.panic c) a w:=by first | exact fun _ _ _ h=>h | exact fun _ _ _ h=>hQ _ _ _ _ _ h):wpAnyH P md ops Q S (fuel+1) listed a w:=tu b e hw f h hQ
section
variable {P:Program} {ops:Array Oper} {md:Region.Mode} {v:Value} {fuel:Nat} {listed:Array Bool} {a:Act} {w:World} {d:Option Nat} {op:Op} {ty:TypeId} {p:String} {af:Array Edge}
theorem Y0 {Q:Exit->Act->World->Prop} {S:World->Prop} {g:Option (Nat×Bool)} {b:Act} (i:Nat) (h:wpAnyH P md ops Q S fuel (listed.setIfInBounds i true) b w) (j:S w:=by assumption) (e:ops[i]?=some ⟨d,op,ty,p,af,g⟩:=by exact rfl) (f:(Region.noSelect ops&&Region.free md ops listed i&&(Region.ready md ops listed).contains i)=true:=by kernel_rfl) (hw:Region.wanted ⟨d,op,ty,p,af,g⟩ (yielded ops a.tmps)=true:=by exact rfl) (hv:∀ u,S u->(execOp a.eval ⟨d,op,ty,p,af,g⟩).run P u=.ok (.value v) u:=by intro wq hSw;(try dsimp only at hSw);go_simp;try with_reducible rfl) (hQ:∀ c a w,Q (.panic c) (a.put d v) w->Q (.panic c) a w:=by first | exact fun _ _ _ h=>h | exact fun _ _ _ h=>hQ _ _ _ _ _ h) (k:a.put d v=b:=by first | (simp only [qq];rfl) | rfl):wpAnyH P md ops Q S (fuel+1) listed a w:=tq i j (k▸h) e f hw hv hQ
theorem Y4 {Q:Exit->Act->World->Prop} {S:World->Prop} {g:Option (Nat×Bool)} {b:Act} (i:Nat) (h:wpAnyH P md ops Q S fuel (listed.setIfInBounds i true) b w) (j:S w:=by assumption) (e:ops[i]?=some ⟨d,op,ty,p,af,g⟩:=by exact rfl) (f:(Region.noSelect ops&&Region.free md ops listed i&&(Region.ready md ops listed).contains i)=true:=by kernel_rfl) (hw:Region.wanted ⟨d,op,ty,p,af,g⟩ (yielded ops a.tmps)=false:=by exact rfl) (hQ:∀ c a w,Q (.panic c) (a.put d undef) w->Q (.panic c) a w:=by first | exact fun _ _ _ h=>h | exact fun _ _ _ h=>hQ _ _ _ _ _ h) (k:a.put d undef=b:=by first | (simp only [qq];rfl) | rfl):wpAnyH P md ops Q S (fuel+1) listed a w:=uq i j (k▸h) e f hw hQ
theorem J8 {S:World->Prop} {X K:Act->World->Prop} {b:Act} (d:Shut (∀ a w,S w->(S w->X a w)->K a w)) (c:S w) (h:S w->X b w) (e:a=b:=by first | (simp only [qq];rfl) | rfl):K a w:=d.out _ _ c (e▸h)
theorem wF {S:World->Prop} {X K:Act->World->Prop} {b:Act} (d:Shut (∀ a w,S w->(S w->X a w)->K a w)) (h:S w->X b w) (c:S w:=by (try dsimp only);go_keep) (e:a=b:=by first | (simp only [qq];rfl) | rfl):K a w:=d.out _ _ c (e▸h)
theorem VA {S:World->Prop} {X K:Act->World->Prop} (c:Shut (∀ a w,S w->(S w->X a w)->K a w)) (h:S w->X a w) (b:S w:=by (try dsimp only);go_keep):K a w:=c.out _ _ b h
theorem wdn {Q:Exit->Act->World->Prop} {S:World->Prop} (h:Q .normal a w) (hr:Region.ready md ops listed=[]:=by kernel_rfl):wpAnyH P md ops Q S fuel listed a w:=wpAnyH_done hr h _
end
theorem rq {P:Program} {ops:Array Oper} {Q:Exit->Act->World->Prop} {md:Region.Mode} {S:World->Prop} {fuel:Nat} {listed:Array Bool} {a:Act} {w:World} {d:Option Nat} {op:Op} {ty:TypeId} {p:String} {af:Array Edge} {g:Option (Nat×Bool)} (i:Nat) (h:∀ b:Act->World->Prop,Shut (∀ a w,S w->(S w->wpAnyH P md ops Q S fuel (listed.setIfInBounds i true) a w)->b a w)->if Region.wanted ⟨d,op,ty,p,af,g⟩ (yielded ops a.tmps)=true then Oper.wp P ⟨d,op,ty,p,af,g⟩ a w b Q else b (a.put d undef) w) (ho:ops[i]?=some ⟨d,op,ty,p,af,g⟩:=by exact rfl) (hr:Region.ready md ops listed=[i]:=by kernel_rfl):wpAnyH P md ops Q S (fuel+1) listed a w:=rd ho hr h
end Go.Proofs.YtkdbheidpdjimaaGreatDoor
namespace Go.Proofs.YtkdbheidpdjimaaGreatDoor
open Go.RowKit Go.Maps
variable {a b k:BY} {l:List (ByteArray×Value)}
def Y_ (v:Value):Option (DataW Value×List MemPlace):=some (.held v,[])
def kS (s:BY):Lit:=.string s.data.toList
def eS (p:BY×Value):Lit×DataW Value:=(kS p.1,.held p.2)
def mapD (l:List (ByteArray×Value)):DataW Value:=.map (l.map eS)
def Aq (a b:BY):Bool:=bytesBefore a.data.toList b.data.toList
def Rf (x:BY×Value):List (ByteArray×Value)->List (ByteArray×Value)
 | []=>[x]
 | y::r=>if Aq x.1 y.1 then x::y::r else y::Rf x r
def Asc (l:List (ByteArray×Value)):Prop:=l.Pairwise fun p q=>Aq p.1 q.1=true
def X_ (l:List (ByteArray×Value)) (k:BY):Option Value:=(l.find? fun p=>decide (p.1=k)).map (·.2)
theorem pK (h:a.data.toList=b.data.toList):a=b:=by
 apply qg;exact Rl.1 h
theorem Rw (a b:BY):(kS a).sameKey (kS b)=decide (a=b):=by
 show (a.data.toList==b.data.toList)=decide (a=b);by_cases h:a=b
 · simp [h]
 · rw [P9 h];exact n_.2 (fun e=>h (pK e))
theorem uJ (l:List (ByteArray×Value)) (k:BY) (z:DataW Value):(mapD l).atKey (kS k) z=match X_ l k with | some v=>.held v | none=>z:=by
 unfold mapD DataW.atKey X_;simp only [List.find?_map];have e:((fun p:Lit×DataW Value=>p.1.sameKey (kS k))∘eS)=fun p=>decide (p.1=k):=funext fun p=>Rw p.1 k;rw [e];cases List.find? (fun p:BY×Value=>decide (p.1=k)) l <;> rfl
theorem YQ (l:List (ByteArray×Value)) (k:BY):has (mapD l) (kS k)=(X_ l k).isSome:=by
 show (l.map eS).any (fun p=>p.1.sameKey (kS k))=_;rw [List.any_map];have e:((fun p:Lit×DataW Value=>p.1.sameKey (kS k))∘eS)=fun p=>decide (p.1=k):=funext fun p=>Rw p.1 k;rw [e];unfold X_;rw [Option.isSome_map,Bool.eq_iff_iff];simp
theorem Eb (l:List (ByteArray×Value)):size (mapD l)=l.length:=by
 show (l.map eS).length=_;simp
theorem xB (l:List (ByteArray×Value)):strKeys (mapD l)=l.map fun p=>p.1.data.toList:=by
 show (l.map eS).map _=_;simp [eS,kS,strOf,Function.comp_def]
theorem UJ (x:BY×Value) (l:List (ByteArray×Value)):(Rf x l).map eS=DataW.insert (eS x) (l.map eS):=by
 induction l with
 | nil=>rfl
 | cons y r ih=>
  unfold Rf;show _=if (kS x.1).before (kS y.1)=true then _ else _;show List.map eS (if bytesBefore x.1.data.toList y.1.data.toList=true then _ else _)=if bytesBefore x.1.data.toList y.1.data.toList=true then _ else _;split
  · rfl
  · simp [ih]
theorem Ja:X_ l k=none↔∀ p∈l,p.1≠k:=by
 unfold X_;simp
theorem Es (v:Value) (h:X_ l k=none):(mapD l).put (kS k) (.held v)=mapD (Rf (k,v) l):=by
 show DataW.map (DataW.insert (eS (k,v)) ((l.map eS).filter fun p=>!p.1.sameKey (kS k)))=DataW.map ((Rf (k,v) l).map eS);rw [UJ]
 congr 2
 rw [aI];intro p b;obtain ⟨q,a,rfl⟩:=Jl.1 b;show (!(kS q.1).sameKey (kS k))=true;rw [Rw,P9 (Ja.1 h q a)];rfl
theorem Dc (x:BY×Value) (l:List (ByteArray×Value)):(Rf x l).Perm (x::l):=by
 induction l with
 | nil=>exact mF _
 | cons y r ih=>
  unfold Rf;split
  · exact mF _
  · exact (ih.cons y).trans (List.Perm.swap x y r)
theorem jm (a:BY):Aq a a=false:=WideAt.bytes_irrefl _
theorem Pz {c:BY} (h:Aq a b=true) (d:Aq b c=true):Aq a c=true:=WideShapes.bytes_trans _ _ _ h d
theorem OJ (h:a≠b):Aq a b=true\/Aq b a=true:=WideAt.bytes_total _ _ (fun e=>h (pK e))
theorem Qr {x:BY×Value} (h:Asc l) (hx:∀ p∈l,p.1≠x.1):Asc (Rf x l):=by
 induction l with
 | nil=>exact List.pairwise_singleton _ _
 | cons y r ih=>
  have c:=Ny.1 h;unfold Rf;split
  · rename_i b;exact Ny.2 ⟨fun p a=>by
     rcases ve.1 a with rfl | a
     · exact b
     · exact Pz b (c.1 p a),h⟩
  · rename_i b;have d:Aq y.1 x.1=true:=(OJ (hx y (Gq ..))).elim id (fun e=>absurd e b);refine Ny.2 ⟨fun p a=>?_,ih c.2 (fun p a=>hx p (ug _ a))⟩;rcases ve.1 ((Dc x r).mem_iff.1 a) with rfl | a
    · exact d
    · exact c.1 p a
theorem dX {c:List (ByteArray×Value)} (h:Asc l) (e:Asc c) (d:l.Perm c):l=c:=by
 refine List.Perm.eq_of_pairwise (le:=fun (p q:BY×Value)=>Aq p.1 q.1=true) (fun a b _ _ h1 h2=>?_) h e d;have:=Pz h1 h2;rw [jm] at this;cases this
theorem Py {v:Value} (h:X_ l k=some v):(k,v)∈l:=by
 unfold X_ at h;obtain ⟨p,a,rfl⟩:=zD.1 h;have h1:=List.mem_of_find?_eq_some a;have h2:=yI a;simp at h2;rw [<- h2];exact h1
theorem Oo (h:Asc l) {k:BY} {v:Value} (hm:(k,v)∈l):X_ l k=some v:=by
 induction l with
 | nil=>cases hm
 | cons y r ih=>
  have a:=Ny.1 h;rcases ve.1 hm with rfl | hm
  · simp [X_]
  · have b:y.1≠k:=fun e=>by
     have:=a.1 _ hm;rw [e] at this;simp only [jm] at this;cases this
    have hr:=ih a.2 hm;unfold X_ at hr ⊢;rw [List.find?_cons_of_neg (by simpa using b)];exact hr
theorem uI (f l:List (ByteArray×Value)) (hf:Asc f) (hl:Asc l) (hd:∀ p∈f,X_ l p.1=none):Asc (f.foldl (fun a p=>Rf p a) l)/\(f.foldl (fun a p=>Rf p a) l).Perm (f++l)/\Lib.mergeD (mapD l) (mapD f)=mapD (f.foldl (fun a p=>Rf p a) l):=by
 show _/\_/\(f.map eS).foldl (fun D p=>D.put p.1 p.2) (mapD l)=_
 induction f generalizing l with
 | nil=>exact ⟨hl,mF _,rfl⟩
 | cons y r ih=>
  have g:=Ny.1 hf;have c:=hd y (Gq ..);obtain ⟨j,i,h⟩:=ih (Rf y l) g.2 (Qr hl (Ja.1 c)) (fun p d=>Ja.2 (fun q b=>by
   rcases ve.1 ((Dc y l).mem_iff.1 b) with rfl | b
   · intro e;have:=g.1 p d;rw [e,jm] at this;cases this
   · exact Ja.1 (hd p (ug _ d)) q b))
  refine ⟨j,?_,?_⟩
  · show (List.foldl (fun a p=>Rf p a) (Rf y l) r).Perm (y::(r++l));exact i.trans (((Dc y l).append_left r).trans List.perm_middle)
  · show (r.map eS).foldl (fun D p=>D.put p.1 p.2) ((mapD l).put (kS y.1) (.held y.2))=_;rw [Es y.2 c];exact h
theorem ZG:∀ (a b:List UInt8),bytesBefore a b=true->a<=b
 | [],_,_=>List.nil_le _
 | _::_,[],h=>by simp [bytesBefore] at h
 | x::r,y::s,h=>by
  simp [bytesBefore] at h;rcases h with h | ⟨rfl,h⟩
  · exact List.le_of_lt (List.Lex.rel h)
  · exact List.cons_le_cons_iff.2 (.inr ⟨rfl,ZG r s h⟩)
theorem wH (h:Asc l) {ss:List (List UInt8)} (a:ss.Perm (strKeys (mapD l))):ss.mergeSort (fun x y=>decide (x<=y))=l.map fun p=>p.1.data.toList:=by
 rw [xB] at a;have e:=mergeSort_of_perm a;show ss.mergeSort leB=_;rw [e];apply List.mergeSort_of_pairwise;refine List.pairwise_map.2 (h.imp fun {p q} hb=>?_);simpa [leB] using ZG _ _ hb
def iE (i:Nat) (v:Value):Lit×DataW Value:=(.int .i64 i,.held v)
def intD (vs:List Value):DataW Value:=.map ((List.range vs.length).map fun i=>iE i (vs.getD i undef))
theorem Ll (vs:List Value):size (intD vs)=vs.length:=by
 show ((List.range vs.length).map fun i=>iE i (vs.getD i undef)).length=_;simp
theorem bC (vs:List Value):intKeys (intD vs)=(List.range vs.length).map fun i:Nat=>(i:Int):=by
 show ((List.range vs.length).map fun i=>iE i (vs.getD i undef)).map _=_;simp [iE,Go.intOf,Function.comp_def]
theorem uT (vs:List Value) (k:Nat) (z:DataW Value):(intD vs).atKey (.int .i64 k) z=if k<vs.length then .held (vs.getD k undef) else z:=by
 unfold intD DataW.atKey;simp only [List.find?_map];have e:((fun p:Lit×DataW Value=>p.1.sameKey (.int .i64 k))∘fun i=>iE i (vs.getD i undef))=fun i=>decide (i=k):=funext fun i=>by simp [iE,Lit.sameKey];omega
 rw [e];by_cases h:k<vs.length
 · rw [G8 h];have:List.find? (fun i=>decide (i=k)) (List.range vs.length)=some k:=by
    cases hq:List.find? (fun i=>decide (i=k)) (List.range vs.length) with
    | none=>exact absurd (Px.1 hq k (Gs.2 h)) I4
    | some j=>have:=yI hq;simp at this;rw [this]
   rw [this];rfl
 · rw [A8 h];have:List.find? (fun i=>decide (i=k)) (List.range vs.length)=none:=Px.2 (fun j a=>by have:=Gs.1 a;simp;omega);rw [this];rfl
theorem rQ (x:Lit×DataW Value) (l:List (Lit×DataW Value)) (h:∀ p∈l,x.1.before p.1=false):DataW.insert x l=l++[x]:=by
 induction l with
 | nil=>rfl
 | cons y r ih=>
  unfold DataW.insert;rw [h y (Gq ..),ih (fun p a=>h p (ug _ a))];simp
theorem JP (vs:List Value) (v:Value):(intD vs).put (.int .i64 vs.length) (.held v)=intD (vs++[v]):=by
 show DataW.map (DataW.insert (iE vs.length v) (((List.range vs.length).map fun i=>iE i (vs.getD i undef)).filter fun p=>!p.1.sameKey (.int .i64 vs.length)))=DataW.map ((List.range (vs++[v]).length).map fun i=>iE i ((vs++[v]).getD i undef))
 congr 1
 rw [aI.2,rQ]
 · rw [N9,Ej,VE,Fg]
   congr 1
   · apply Wu;intro i a;have:=Gs.1 a;unfold iE;simp [List.getD,I_ this]
   · simp [iE,List.getD]
 · intro p b;obtain ⟨i,a,rfl⟩:=Jl.1 b;have:=Gs.1 a;show decide ((vs.length:Int)<(i:Int))=false;simp;omega
 · intro p b;obtain ⟨i,a,rfl⟩:=Jl.1 b;have:=Gs.1 a;simp [iE,Lit.sameKey];omega
theorem QG {vs:List Value} {ss:List Int} (a:ss.Perm (intKeys (intD vs))):ss.mergeSort (fun x y=>decide (x<=y))=(List.range vs.length).map fun i:Nat=>(i:Int):=by
 rw [bC] at a;have e:=mergeSort_of_perm_i a;show ss.mergeSort leI=_;rw [e];apply List.mergeSort_of_pairwise;refine List.pairwise_map.2 (List.pairwise_lt_range.imp fun {p q} hb=>?_);simp [leI];omega
end Go.Proofs.YtkdbheidpdjimaaGreatDoor
namespace Go.Proofs
open Go.Shelf
def Tryz.keysA_ren:Go.Shelf.Ren:=⟨fun | 7=>184 | 10=>229 | n => n, fun | 23=>184 | 26=>9 | 3=>192 | 28=>283 | 0=>0 | 27=>282 | 33=>67 | 4=>4 | n => n, fun | n=>n⟩
theorem Tryz.keysA:Go.Proofs.SlLaysZ.n7 prog Tryz.keysA_ren:={
 mixed:=J3
 f7:=⟨Tryz.f184.name,O6,func184.trans (P5 some J3)⟩
 f10:=⟨Tryz.f229.name,O6,func229.trans (P5 some J3)⟩
 t0:=underlying0
 a0:=Tryz.isAgg0
 z0:=Tryz.sizeOf0
 v0:=Tryz.zeroValue0
 t4:=underlying4
 a4:=Tryz.isAgg4
 z4:=Tryz.sizeOf4
 v4:=Tryz.zeroValue4
 t23:=underlying184
 a23:=Tryz.isAgg184
 z23:=Tryz.sizeOf184
 v23:=Tryz.zeroValue184
 t26:=underlying9
 a26:=Tryz.isAgg9
 z26:=Tryz.sizeOf9
 v26:=Tryz.zeroValue9
 t27:=underlying282
 a27:=Tryz.isAgg282
 z27:=Tryz.sizeOf282
 v27:=Tryz.zeroValue282
 t28:=underlying283
 a28:=Tryz.isAgg283
 z28:=Tryz.sizeOf283
 v28:=Tryz.zeroValue283
 t33:=underlying67
 a33:=Tryz.isAgg67
 z33:=Tryz.sizeOf67
 v33:=Tryz.zeroValue67 }
def Tryz.sortedA_ren:Go.Shelf.Ren:=⟨fun | 6=>183 | 8=>227 | 9=>228 | 11=>255 | 13=>257 | 12=>256 | 23=>278 | 24=>279 | 14=>269 | 15=>270 | 16=>271 | 17=>272 | 18=>273 | 19=>274 | 20=>275 | 21=>276 | 22=>277 | 25=>293 | 26=>294 | 27=>295 | 28=>296 | 29=>297 | 30=>298 | 31=>307 | n => n, fun | 26=>9 | 28=>283 | 24=>22 | 0=>0 | 3=>3 | 37=>290 | 48=>337 | 50=>316 | 4=>4 | 40=>378 | 39=>377 | 45=>220 | 5=>5 | 9=>9 | 51=>393 | 55=>397 | 57=>409 | 58=>410 | 33=>67 | n => n, fun | n=>n⟩
theorem Tryz.sortedA:Go.Proofs.SlLaysZ.n6 prog Tryz.sortedA_ren:={
 mixed:=J3
 f6:=⟨Tryz.f183.name,O6,func183.trans (P5 some J3)⟩
 f8:=⟨Tryz.f227.name,O6,func227.trans (P5 some J3)⟩
 f11:=⟨Tryz.f255.name,O6,func255.trans (P5 some J3)⟩
 t0:=underlying0
 a0:=Tryz.isAgg0
 z0:=Tryz.sizeOf0
 v0:=Tryz.zeroValue0
 t24:=underlying22
 a24:=Tryz.isAgg22
 z24:=Tryz.sizeOf22
 v24:=Tryz.zeroValue22
 t26:=underlying9
 a26:=Tryz.isAgg9
 z26:=Tryz.sizeOf9
 v26:=Tryz.zeroValue9
 t28:=underlying283
 a28:=Tryz.isAgg283
 z28:=Tryz.sizeOf283
 v28:=Tryz.zeroValue283
 i26:=by kernel_rfl }
def Tryz.oL:Go.Shelf.Ren:=⟨fun | 6=>228 | 8=>257 | 9=>256 | 19=>278 | 20=>279 | 21=>269 | 22=>270 | 23=>271 | 24=>272 | 25=>273 | 26=>274 | 27=>275 | 28=>276 | 29=>277 | 36=>293 | 31=>294 | 32=>295 | 37=>296 | 38=>297 | 39=>298 | 41=>307 | n => n, fun | 27=>22 | 29=>9 | 3=>3 | 32=>290 | 26=>22 | 0=>0 | 44=>337 | 46=>316 | 4=>4 | 36=>378 | 35=>377 | 41=>220 | 5=>5 | 9=>9 | 53=>393 | 57=>397 | 63=>409 | 64=>410 | n => n, fun | n=>n⟩
theorem Tryz.sortA:Go.Proofs.SlLaysM.n6 prog Tryz.oL:={
 mixed:=J3
 f6:=⟨Tryz.f228.name,O6,func228.trans (P5 some J3)⟩
 f8:=func257.trans (P5 some J3)
 f9:=⟨Tryz.f256.name,O6,func256.trans (P5 some J3)⟩
 f19:=func278.trans (P5 some J3)
 f20:=func279.trans (P5 some J3)
 f21:=⟨Tryz.f269.name,O6,func269.trans (P5 some J3)⟩
 f22:=⟨Tryz.f270.name,O6,func270.trans (P5 some J3)⟩
 f23:=⟨Tryz.f271.name,O6,func271.trans (P5 some J3)⟩
 f24:=⟨Tryz.f272.name,O6,func272.trans (P5 some J3)⟩
 f25:=⟨Tryz.f273.name,O6,func273.trans (P5 some J3)⟩
 f26:=⟨Tryz.f274.name,O6,func274.trans (P5 some J3)⟩
 f27:=⟨Tryz.f275.name,O6,func275.trans (P5 some J3)⟩
 f28:=⟨Tryz.f276.name,O6,func276.trans (P5 some J3)⟩
 f29:=⟨Tryz.f277.name,O6,func277.trans (P5 some J3)⟩
 f31:=func294.trans (P5 some J3)
 f32:=func295.trans (P5 some J3)
 f36:=⟨Tryz.f293.name,O6,func293.trans (P5 some J3)⟩
 f37:=⟨Tryz.f296.name,O6,func296.trans (P5 some J3)⟩
 f38:=⟨Tryz.f297.name,O6,func297.trans (P5 some J3)⟩
 f39:=⟨Tryz.f298.name,O6,func298.trans (P5 some J3)⟩
 f41:=⟨Tryz.f307.name,O6,func307.trans (P5 some J3)⟩
 t0:=underlying0
 a0:=Tryz.isAgg0
 z0:=Tryz.sizeOf0
 v0:=Tryz.zeroValue0
 t3:=underlying3
 a3:=Tryz.isAgg3
 z3:=Tryz.sizeOf3
 v3:=Tryz.zeroValue3
 t4:=underlying4
 a4:=Tryz.isAgg4
 z4:=Tryz.sizeOf4
 v4:=Tryz.zeroValue4
 t5:=underlying5
 a5:=Tryz.isAgg5
 z5:=Tryz.sizeOf5
 v5:=Tryz.zeroValue5
 t9:=underlying9
 a9:=Tryz.isAgg9
 z9:=Tryz.sizeOf9
 v9:=Tryz.zeroValue9
 t26:=underlying22
 a26:=Tryz.isAgg22
 z26:=Tryz.sizeOf22
 v26:=Tryz.zeroValue22
 t27:=underlying22
 a27:=Tryz.isAgg22
 z27:=Tryz.sizeOf22
 v27:=Tryz.zeroValue22
 t29:=underlying9
 a29:=Tryz.isAgg9
 z29:=Tryz.sizeOf9
 v29:=Tryz.zeroValue9
 t32:=underlying290
 a32:=Tryz.isAgg290
 z32:=Tryz.sizeOf290
 v32:=Tryz.zeroValue290
 t35:=underlying377
 a35:=Tryz.isAgg377
 z35:=Tryz.sizeOf377
 v35:=Tryz.zeroValue377
 t36:=underlying378
 a36:=Tryz.isAgg378
 z36:=Tryz.sizeOf378
 v36:=Tryz.zeroValue378
 t41:=underlying220
 a41:=Tryz.isAgg220
 z41:=Tryz.sizeOf220
 v41:=Tryz.zeroValue220
 t44:=underlying337
 a44:=Tryz.isAgg337
 z44:=Tryz.sizeOf337
 v44:=Tryz.zeroValue337
 t46:=underlying316
 a46:=Tryz.isAgg316
 z46:=Tryz.sizeOf316
 v46:=Tryz.zeroValue316
 t53:=underlying393
 a53:=Tryz.isAgg393
 z53:=Tryz.sizeOf393
 v53:=Tryz.zeroValue393
 t57:=underlying397
 a57:=Tryz.isAgg397
 z57:=Tryz.sizeOf397
 v57:=Tryz.zeroValue397
 t63:=underlying409
 a63:=Tryz.isAgg409
 z63:=Tryz.sizeOf409
 v63:=Tryz.zeroValue409
 t64:=underlying410
 a64:=Tryz.isAgg410
 z64:=Tryz.sizeOf410
 v64:=Tryz.zeroValue410 }
def Tryz.keysB_ren:Go.Shelf.Ren:=⟨fun | 7=>187 | 10=>232 | n => n, fun | 23=>185 | 26=>3 | 3=>113 | 28=>287 | 0=>0 | 27=>286 | 33=>59 | 4=>4 | n => n, fun | n=>n⟩
theorem Tryz.keysB:Go.Proofs.SlLaysZI.n7 prog Tryz.keysB_ren:={
 mixed:=J3
 f7:=⟨Tryz.f187.name,O6,func187.trans (P5 some J3)⟩
 f10:=⟨Tryz.f232.name,O6,func232.trans (P5 some J3)⟩
 t0:=underlying0
 a0:=Tryz.isAgg0
 z0:=Tryz.sizeOf0
 v0:=Tryz.zeroValue0
 t4:=underlying4
 a4:=Tryz.isAgg4
 z4:=Tryz.sizeOf4
 v4:=Tryz.zeroValue4
 t23:=underlying185
 a23:=Tryz.isAgg185
 z23:=Tryz.sizeOf185
 v23:=Tryz.zeroValue185
 t26:=underlying3
 a26:=Tryz.isAgg3
 z26:=Tryz.sizeOf3
 v26:=Tryz.zeroValue3
 t27:=underlying286
 a27:=Tryz.isAgg286
 z27:=Tryz.sizeOf286
 v27:=Tryz.zeroValue286
 t28:=underlying287
 a28:=Tryz.isAgg287
 z28:=Tryz.sizeOf287
 v28:=Tryz.zeroValue287
 t33:=underlying59
 a33:=Tryz.isAgg59
 z33:=Tryz.sizeOf59
 v33:=Tryz.zeroValue59 }
def Tryz.sortedB_ren:Go.Shelf.Ren:=⟨fun | 6=>186 | 8=>230 | 9=>231 | 11=>258 | 13=>257 | 12=>259 | 23=>278 | 24=>279 | 14=>280 | 15=>281 | 16=>282 | 17=>283 | 18=>284 | 19=>285 | 20=>286 | 21=>287 | 22=>288 | 25=>299 | 26=>294 | 27=>295 | 28=>300 | 29=>301 | 30=>302 | 31=>308 | n => n, fun | 26=>3 | 28=>287 | 24=>31 | 0=>0 | 3=>3 | 37=>290 | 48=>337 | 50=>316 | 4=>4 | 40=>378 | 39=>377 | 45=>220 | 5=>5 | 9=>9 | 51=>393 | 55=>397 | 57=>409 | 58=>410 | 33=>59 | n => n, fun | n=>n⟩
theorem Tryz.sortedB:Go.Proofs.SlLaysZI.n6 prog Tryz.sortedB_ren:={
 mixed:=J3
 f6:=⟨Tryz.f186.name,O6,func186.trans (P5 some J3)⟩
 f8:=⟨Tryz.f230.name,O6,func230.trans (P5 some J3)⟩
 f11:=⟨Tryz.f258.name,O6,func258.trans (P5 some J3)⟩
 t0:=underlying0
 a0:=Tryz.isAgg0
 z0:=Tryz.sizeOf0
 v0:=Tryz.zeroValue0
 t24:=underlying31
 a24:=Tryz.isAgg31
 z24:=Tryz.sizeOf31
 v24:=Tryz.zeroValue31
 t26:=underlying3
 a26:=Tryz.isAgg3
 z26:=Tryz.sizeOf3
 v26:=Tryz.zeroValue3
 t28:=underlying287
 a28:=Tryz.isAgg287
 z28:=Tryz.sizeOf287
 v28:=Tryz.zeroValue287
 i26:=by kernel_rfl }
def Tryz.YL:Go.Shelf.Ren:=⟨fun | 5=>231 | 8=>257 | 7=>259 | 19=>278 | 20=>279 | 10=>280 | 11=>281 | 12=>282 | 13=>283 | 14=>284 | 15=>285 | 16=>286 | 17=>287 | 18=>288 | 30=>299 | 31=>294 | 32=>295 | 33=>300 | 34=>301 | 35=>302 | 40=>308 | n => n, fun | 23=>31 | 25=>3 | 3=>3 | 32=>290 | 22=>31 | 0=>0 | 44=>337 | 46=>316 | 4=>4 | 36=>378 | 35=>377 | 41=>220 | 5=>5 | 9=>9 | 53=>393 | 57=>397 | 63=>409 | 64=>410 | n => n, fun | n=>n⟩
theorem Tryz.sortB:Go.Proofs.SlLaysM.n5 prog Tryz.YL:={
 mixed:=J3
 f5:=⟨Tryz.f231.name,O6,func231.trans (P5 some J3)⟩
 f7:=⟨Tryz.f259.name,O6,func259.trans (P5 some J3)⟩
 f8:=func257.trans (P5 some J3)
 f10:=⟨Tryz.f280.name,O6,func280.trans (P5 some J3)⟩
 f11:=⟨Tryz.f281.name,O6,func281.trans (P5 some J3)⟩
 f12:=⟨Tryz.f282.name,O6,func282.trans (P5 some J3)⟩
 f13:=⟨Tryz.f283.name,O6,func283.trans (P5 some J3)⟩
 f14:=⟨Tryz.f284.name,O6,func284.trans (P5 some J3)⟩
 f15:=⟨Tryz.f285.name,O6,func285.trans (P5 some J3)⟩
 f16:=⟨Tryz.f286.name,O6,func286.trans (P5 some J3)⟩
 f17:=⟨Tryz.f287.name,O6,func287.trans (P5 some J3)⟩
 f18:=⟨Tryz.f288.name,O6,func288.trans (P5 some J3)⟩
 f19:=func278.trans (P5 some J3)
 f20:=func279.trans (P5 some J3)
 f30:=⟨Tryz.f299.name,O6,func299.trans (P5 some J3)⟩
 f31:=func294.trans (P5 some J3)
 f32:=func295.trans (P5 some J3)
 f33:=⟨Tryz.f300.name,O6,func300.trans (P5 some J3)⟩
 f34:=⟨Tryz.f301.name,O6,func301.trans (P5 some J3)⟩
 f35:=⟨Tryz.f302.name,O6,func302.trans (P5 some J3)⟩
 f40:=⟨Tryz.f308.name,O6,func308.trans (P5 some J3)⟩
 t0:=underlying0
 a0:=Tryz.isAgg0
 z0:=Tryz.sizeOf0
 v0:=Tryz.zeroValue0
 t3:=underlying3
 a3:=Tryz.isAgg3
 z3:=Tryz.sizeOf3
 v3:=Tryz.zeroValue3
 t4:=underlying4
 a4:=Tryz.isAgg4
 z4:=Tryz.sizeOf4
 v4:=Tryz.zeroValue4
 t5:=underlying5
 a5:=Tryz.isAgg5
 z5:=Tryz.sizeOf5
 v5:=Tryz.zeroValue5
 t9:=underlying9
 a9:=Tryz.isAgg9
 z9:=Tryz.sizeOf9
 v9:=Tryz.zeroValue9
 t22:=underlying31
 a22:=Tryz.isAgg31
 z22:=Tryz.sizeOf31
 v22:=Tryz.zeroValue31
 t23:=underlying31
 a23:=Tryz.isAgg31
 z23:=Tryz.sizeOf31
 v23:=Tryz.zeroValue31
 t25:=underlying3
 a25:=Tryz.isAgg3
 z25:=Tryz.sizeOf3
 v25:=Tryz.zeroValue3
 t32:=underlying290
 a32:=Tryz.isAgg290
 z32:=Tryz.sizeOf290
 v32:=Tryz.zeroValue290
 t35:=underlying377
 a35:=Tryz.isAgg377
 z35:=Tryz.sizeOf377
 v35:=Tryz.zeroValue377
 t36:=underlying378
 a36:=Tryz.isAgg378
 z36:=Tryz.sizeOf378
 v36:=Tryz.zeroValue378
 t41:=underlying220
 a41:=Tryz.isAgg220
 z41:=Tryz.sizeOf220
 v41:=Tryz.zeroValue220
 t44:=underlying337
 a44:=Tryz.isAgg337
 z44:=Tryz.sizeOf337
 v44:=Tryz.zeroValue337
 t46:=underlying316
 a46:=Tryz.isAgg316
 z46:=Tryz.sizeOf316
 v46:=Tryz.zeroValue316
 t53:=underlying393
 a53:=Tryz.isAgg393
 z53:=Tryz.sizeOf393
 v53:=Tryz.zeroValue393
 t57:=underlying397
 a57:=Tryz.isAgg397
 z57:=Tryz.sizeOf397
 v57:=Tryz.zeroValue397
 t63:=underlying409
 a63:=Tryz.isAgg409
 z63:=Tryz.sizeOf409
 v63:=Tryz.zeroValue409
 t64:=underlying410
 a64:=Tryz.isAgg410
 z64:=Tryz.sizeOf410
 v64:=Tryz.zeroValue410 }
end Go.Proofs
namespace Go.Proofs.YtkdbheidpdjimaaGreatDoor
open Proofs.Tryz Go.RowKit
variable {l t:List UInt8} {w:World} {c d:Int} {s:BY} {p:Addr}
def ul (l:List UInt8):Bool:=Ub l&&l.all t_&&decide (val l<=7)
def EH (l:List UInt8):Int:=if ul l=true then val l else 0
theorem aK (h:Ub l=false):ul l=false:=by simp [ul,h]
theorem jO (h:l.all t_=false):ul l=false:=by simp only [ul,h,Uu,jA]
theorem rY (k:Nat) (h:7<val (l.take k)):ul l=false:=by
 by_cases ha:l.all t_=true
 · have:=Qo l ha k;have hd:decide (val l<=7)=false:=by simp only [Xr];omega
   simp only [ul,hd,Uu]
 · exact jO (by simpa using ha)
theorem uX (h1:Ub l=true) (h2:l.all t_=true) (a:val l<=7):ul l=true:=by
 have hd:decide (val l<=7)=true:=by simpa using a
 simp only [ul,h1,h2,hd,SI]
theorem rD (h:ul l=false):EH l=0:=by simp [EH,h]
theorem SC (h:ul l=true):EH l=val l:=by simp [EH,h]
theorem kZ (s:BY) (w:World) (hs:s.size<=1048700):
 Calls prog 168 #[.string s,.int .i64 7] w fun e w'=>e=.returned (.tuple #[.int .i64 (EH s.data.toList),.bool (ul s.data.toList)])/\w'=w:=by
 by_cases h0:s.size=0
 · have e0:s.toList=[]:=by
    rw [ByteArray.toList_eq];exact Ya.1 (by simpa using h0)
   have a:Hid (ul s.data.toList=false):=aK (by rw [<- ByteArray.toList_eq,e0];rfl);go_enter func168,ntmps168;go_wp2;go_ret2;exact ⟨Ua (rD a.out).symm a.out.symm,rfl⟩
 · have e0:s.toList.isEmpty=false:=by rw [ByteArray.toList_eq];exact Vo s O0
   have e1:¬ s.toList=[]:=fun h=>by rw [h] at e0;cases e0
   have r:0<s.size:=O0;have g:=Ep s r;by_cases hl:Ub s.data.toList=true
   · have v:=U0 hl;have hc:(s[0].toNat=48/\s.toList=[48])\/((s[0].toNat:Int)==48)=false:=by
      by_cases c:s[0].toNat=48
      · refine .inl ⟨c,?_⟩;have h1:s[0]=48:=Ei.1 c;rw [ByteArray.toList_eq];exact ((qh _).1 hl).2 (by rw [g];exact h1)
      · exact .inr U7
     clear hl g;rcases hc with ⟨c,d⟩ | c
     all_goals
      go_enter func168,ntmps168;go_wp2;go_loop [6,21] (fun n i=>∃ k:Nat,k<=s.size/\i=.int .i64 k/\n=.int .i64 (val (s.data.toList.take k))/\0<=val (s.data.toList.take k)/\val (s.data.toList.take k)<=7/\Hid ((s.data.toList.take k).all t_=true)) (fun _ i=>s.size - (intOf i).toNat)
      case atStart=>exact ⟨0,D5 _,rfl,rfl,by simp [val],by simp [val],rfl⟩
      case round=>
       obtain ⟨k,hk,rfl,rfl,hv0,q,ha⟩:=hrel;by_cases j:k<s.size
       · by_cases b:t_ s[k]=true
         · have l:=(Ce _).1 b;have hw:=jo _ l;have u:=U0 (Md _ s k j ha.out b);have f:Hid (val (s.data.toList.take (k+1))=val (s.data.toList.take k)*10+((s[k].toNat:Int) - 48)):=by
            rw [take_snoc s k j];exact Ve _ _
           clear b;by_cases t:7<val (s.data.toList.take k)*10+((s[k].toNat:Int) - 48)
           · have a:=U0 (rY (k+1) (by rw [f.out];exact t));go_wp2;go_ret2;exact ⟨Ua (rD a.out).symm a.out.symm,rfl⟩
           · go_wp2
             go_round
             case rel=>exact ⟨k+1,O0,by go_num,by rw [f.out],by rw [f.out];omega,by rw [f.out];omega,u⟩
             case measure=>simp [intOf];omega
         · have a:=U0 (jO (Ye _ s k j (by simpa using b)));have l:(s[k].toNat:Int)<48\/57<(s[k].toNat:Int):=by
            rcases zn (s[k].toNat:Int) 48 with h | h
            · exact .inl h
            · rcases zn 57 (s[k].toNat:Int) with o | o
              · exact .inr o
              · exact absurd ((Ce _).2 ⟨h,o⟩) b
           clear b;rcases l with b | b
           all_goals
            go_wp2
            all_goals go_ret2
            all_goals exact ⟨Ua (rD a.out).symm a.out.symm,rfl⟩
       · have p:=Td _ s k O0 ha.out;have m:s.data.toList.take k=s.data.toList:=u_ U7;have a:=U0 (uX v.out p (by rw [<- m];exact q));have x:=U0 m;clear p m;go_wp2;go_ret2;exact ⟨Ua (by rw [SC a.out,x.out]) a.out.symm,rfl⟩
   · have a:=U0 (aK (by simpa using hl));have c:s[0].toNat=48/\¬ s.toList=[48]:=by
      rw [ByteArray.toList_eq] at e1 ⊢;rw [qh,g] at hl;by_cases h1:s[0]=48
      · refine ⟨by rw [h1];rfl,fun d=>hl ⟨e1,fun _=>d⟩⟩
      · exact absurd ⟨e1,fun h=>absurd h h1⟩ hl
     obtain ⟨c,d⟩:=c;have hz':(!s.toList==[48])=true:=by simpa using d
     clear g hl;go_enter func168,ntmps168;go_wp2;go_ret2;exact ⟨Ua (rD a.out).symm a.out.symm,rfl⟩
theorem jX (l:List UInt8):((Lib.cut l [58]).2.2=true/\l=(Lib.cut l [58]).1++58::(Lib.cut l [58]).2.1/\(58:UInt8)∉(Lib.cut l [58]).1)\/((Lib.cut l [58]).2.2=false/\(Lib.cut l [58]).1=l/\(58:UInt8)∉l):=by
 unfold Lib.cut;rw [Lib.index_one];have hge:=Lib.indexByte_ge l 58;by_cases h:Lib.indexByte l 58=-1
 · rw [h,A8 O0];refine .inr ⟨rfl,rfl,fun hm=>?_⟩;obtain ⟨k,a,e⟩:=Ee hm;exact Lib.indexByte_none h k (by rw [y9 a,e])
 · obtain ⟨o,ho⟩:∃ o:Nat,Lib.indexByte l 58=o:=⟨(Lib.indexByte l 58).toNat,O0⟩;obtain ⟨h1,h2⟩:=Lib.indexByte_some ho;have hl:o<l.length:=by
    rcases o8 o l.length with h | h
    · exact h
    · rw [Ec h] at h1;cases h1
   rw [ho,G8 O0];refine .inl ⟨rfl,?_,fun hm=>?_⟩
   · simp only [Dz,Ej];have hx:l[o]=58:=by rw [y9 hl] at h1;exact Q9 h1
     conv=>lhs;rw [<- Gi o l,Xz hl,hx]
   · simp only [Dz] at hm;obtain ⟨k,a,e⟩:=Ee hm;rw [B_] at a;rw [NE] at e;exact h2 k O0 (by rw [y9 O0,e])
def Tc (w:World):Prop:=5<w.heap.size/\∃ m,w.cell? ⟨5,0,none⟩=some (.int .i64 m)
theorem G9 {w':World} (h:Tc w) (a:Bw w w'):Tc w':=by
 obtain ⟨h1,m,hm⟩:=h;exact ⟨m_ h1 a.size,m,by rw [a.cell (by exact h1)];exact hm⟩
theorem below_drewN (n:Nat):Bw w (w.drewN n):=⟨rfl,rfl,rfl,Y9 _,fun _ _=>rfl⟩
theorem wP (l:List UInt8) (w:World) (hs:l.length<=1048700) (hm:Tc w):
 Calls prog 167 #[.string (Y2 l),.string ⟨#[58]⟩] w fun e w'=>e=.returned (.tuple #[.string (Y2 (Lib.cut l [58]).1),.string (Y2 (Lib.cut l [58]).2.1),.bool (Lib.cut l [58]).2.2])/\Bw w w':=by
 obtain ⟨_,m,hm⟩:=hm;refine (Tryz.strings_Cut (Y2 l) ⟨#[58]⟩ m w (by rw [J5];omega) hm).mono ?_;rintro e w' ⟨rfl,n,rfl⟩;exact ⟨rfl,below_drewN n⟩
def l7 (c:Int) (l:List UInt8):List UInt8:=if vr c l=true then UInt8.ofNat (48+c).toNat::58::l else []
theorem Bh (h:vr c l=true):c=0\/c=1\/c=2\/c=3\/c=4\/c=5\/c=7:=by
 unfold vr at h;by_cases h1:c=0\/c=1
 · omega
 · rw [A8 h1] at h;by_cases h2:c=2
   · omega
   · rw [A8 h2] at h;by_cases b:c=3
     · omega
     · rw [A8 b] at h;by_cases a:c=4\/c=5\/c=7
       · omega
       · rw [A8 a] at h;cases h
theorem XJ (h:vr c s.data.toList=false):Ending.returned (.string (⟨#[]⟩:BY))=.returned (.string (Y2 (l7 c s.data.toList))):=by
 unfold l7;rw [h];rfl
theorem UG (h:vr c s.data.toList=true):Y2 (l7 c s.data.toList)=Y2 [UInt8.ofNat (48+c).toNat]++⟨#[58]⟩++s:=by
 unfold l7;rw [if_pos h];apply ByteArray.ext;simp [Y2]
theorem past {v:Value} (a:p.block<w.heap.size) (h:w.cell? p=some v) (o:Obj):(w.alloc o).cell? p=some v:=by
 rw [((Z4 w.heap.size w).alloc x9 o).cell a];exact h
theorem c162 (c:Int) (s:BY) (w:World) (f:s.size<=1048700):
 Calls prog 162 #[.agg #[.int .i64 c,.string s]] w fun e w'=>e=.returned (.string (Y2 (l7 c s.data.toList)))/\Bw w w':=by
 go_enter func162,ntmps162
 go_wp2_with fail
 refine (c59 _ _ _ f).mono ?_;rintro e a ⟨rfl,b⟩;have d:=((Z4 w.heap.size w).alloc x9 (.cells #[vI c,vS s] 103)).trans (b.mono I4);have hz1:w.heap.size+1<=a.heap.size:=by have:=b.size;simp at this;omega
 have g10:a.cell? (aW w 0)=some (vI c):=by rw [b.cell I4];simp
 have h:a.cell? (aW w 1)=some (vS s):=by rw [b.cell I4];simp
 cases hv:vr c s.data.toList
 · have hF:=XJ hv;go_wp2;go_ret;exact ⟨hF,d⟩
 · have hc:=Bh hv;have hF:Hid (Y2 (l7 c s.data.toList)=Y2 [UInt8.ofNat (48+c).toNat]++⟨#[58]⟩++s):=UG hv;have hcv:=dS;have hcd:=oW;have hz:∀ y,(strOfNums [y]).size=1:=fun y=>strOfNums_size [y];clear hv;have h0:0<=c:=O0;have h7:c<=7:=O0;have g:Hid (strOfNums [48+c]=Y2 [UInt8.ofNat (48+c).toNat]):=by
    rcases hc with rfl | rfl | rfl | rfl | rfl | rfl | rfl <;> rfl
   clear hc;have g12:∀ o,(a.alloc o).cell? (aW w 1)=some (vS s):=past U7 h;go_wp2;go_ret;exact ⟨by rw [hF.out,<- g.out];rfl,by first | exact d.alloc O0 _ | exact (d.alloc O0 _).drew⟩
theorem QE (hc:c=0\/c=1\/c=2\/c=3\/c=4\/c=5\/c=7) (hd:0<=d/\d<=9) (h:UInt8.ofNat (48+c).toNat=UInt8.ofNat (48+d).toNat):c=d:=by
 have a:=P5 UInt8.toNat h;simp only [wE] at a;omega
def lD (l:List UInt8) (c:Int) (t:List UInt8) (ok:Bool):Prop:=
 (ok=true->vr c t=true/\l=UInt8.ofNat (48+c).toNat::58::t)/\(ok=false->(c=0/\t=[])/\∀ c' t',vr c' t'=true->l≠UInt8.ofNat (48+c').toNat::58::t')
theorem KU (h:vr c t=true):0<=c/\c<=9:=by have:=Bh h;omega
theorem sJ {u:List UInt8} {a b:Bool} (h:lD l c t a) (k:lD l d u b):c=d/\t=u/\a=b:=by
 cases a <;> cases b
 · obtain ⟨⟨rfl,rfl⟩,_⟩:=h.2 rfl;obtain ⟨⟨rfl,rfl⟩,_⟩:=k.2 rfl;exact ⟨rfl,rfl,rfl⟩
 · obtain ⟨_,f⟩:=h.2 rfl;obtain ⟨h1,h2⟩:=k.1 rfl;exact absurd h2 (f _ _ h1)
 · obtain ⟨_,f⟩:=k.2 rfl;obtain ⟨h1,h2⟩:=h.1 rfl;exact absurd h2 (f _ _ h1)
 · obtain ⟨h1,h2⟩:=h.1 rfl;obtain ⟨g,e⟩:=k.1 rfl;rw [h2] at e;simp only [Ci,zy] at e;exact ⟨QE (Bh h1) (KU g) e.1,e.2,rfl⟩
theorem Ux (h:∀ b a,vr b a=true->l≠UInt8.ofNat (48+b).toNat::58::a):lD l 0 [] false:=⟨(fun h=>by cases h),fun _=>⟨⟨rfl,rfl⟩,h⟩⟩
theorem NK (h:ul l=true):0<=val l/\val l<=7/\l=[UInt8.ofNat (48+val l).toNat]:=by
 simp only [ul,Fa,Fe] at h;obtain ⟨⟨h1,h2⟩,a⟩:=h;have h0:=Vl l h2;refine ⟨h0,a,?_⟩;have hd:=(Vw l h2 h1).1;rw [dec_lt _ O0] at hd;exact hd.symm
theorem LP (h:c=0\/c=1\/c=2\/c=3\/c=4\/c=5\/c=7):ul [UInt8.ofNat (48+c).toNat]=true:=by
 rcases h with rfl | rfl | rfl | rfl | rfl | rfl | rfl <;> decide
theorem uM (h:c=0\/c=1\/c=2\/c=3\/c=4\/c=5\/c=7):(58:UInt8)∉[UInt8.ofNat (48+c).toNat]:=by
 rcases h with rfl | rfl | rfl | rfl | rfl | rfl | rfl <;> decide
theorem FV {a b r q:List UInt8} (ha:(58:UInt8)∉a) (c:(58:UInt8)∉b) (h:a++58::r=b++58::q):a=b/\r=q:=by
 induction a generalizing b with
 | nil=>
  cases b with
  | nil=>exact ⟨rfl,by simpa using h⟩
  | cons x b=>simp at h;exact absurd (by rw [h.1];simp) c
 | cons x a ih=>
  cases b with
  | nil=>simp at h;exact absurd (by rw [h.1];simp) ha
  | cons y b=>
   simp only [Uf,Ci] at h;obtain ⟨rfl,h⟩:=h;obtain ⟨rfl,rfl⟩:=ih (fun m=>ha (ug _ m)) (fun m=>c (ug _ m)) h;exact ⟨rfl,rfl⟩
theorem AP:((Lib.cut l [58]).2.2=true->ul (Lib.cut l [58]).1=true->vr (EH (Lib.cut l [58]).1) (Lib.cut l [58]).2.1=true->lD l (EH (Lib.cut l [58]).1) (Lib.cut l [58]).2.1 true)/\(¬ ((Lib.cut l [58]).2.2=true/\ul (Lib.cut l [58]).1=true/\vr (EH (Lib.cut l [58]).1) (Lib.cut l [58]).2.1=true)->lD l 0 [] false):=by
 have hcut:=jX l;generalize (Lib.cut l [58]).1=a at hcut ⊢;generalize (Lib.cut l [58]).2.1=t at hcut ⊢;generalize (Lib.cut l [58]).2.2=k at hcut ⊢;rcases hcut with ⟨rfl,rfl,g⟩ | ⟨rfl,rfl,g⟩
 · refine ⟨fun _ c hv=>⟨fun _=>⟨hv,?_⟩,(fun h=>by cases h)⟩,fun h=>Ux fun f i d e=>?_⟩
   · obtain ⟨_,_,h⟩:=NK c;rw [SC c]
     conv=>lhs;rw [h]
     rfl
   · obtain ⟨rfl,rfl⟩:=FV (b:=[UInt8.ofNat (48+f).toNat]) g (uM (Bh d)) e;have c:=LP (Bh d);obtain ⟨h0,h1,hl⟩:=NK c;have hc:f=val [UInt8.ofNat (48+f).toNat]:=QE (Bh d) ⟨h0,O0⟩ (by simpa using hl);refine h ⟨rfl,c,?_⟩;rw [SC c,<- hc];exact d
 · refine ⟨(fun h=>by cases h),fun _=>Ux fun f i d e=>g ?_⟩;rw [e];simp
theorem DL (h:l.length<2):lD l 0 [] false:=Ux fun c' t' _ e=>by rw [e] at h;simp at h;omega
theorem AL (h:((l.headD 0).toNat:Int)<48\/57<((l.headD 0).toNat:Int)):lD l 0 [] false:=Ux fun c' t' hv e=>by
 rw [e] at h;simp only [fJ] at h;have:=Bh hv;rw [wE] at h;omega
theorem WN {x:UInt8} (h2:2<=l.length) (hx:l.headD 0=x) (hc:(x.toNat:Int)=48+c) (h0:0<=c/\c<=9):
 (l7 c (l.drop 2)=l->lD l c (l.drop 2) true)/\(l7 c (l.drop 2)≠l->lD l 0 [] false):=by
 constructor
 · intro h;unfold l7 at h;by_cases hv:vr c (l.drop 2)=true
   · rw [G8 hv] at h;exact ⟨fun _=>⟨hv,h.symm⟩,(fun h=>by cases h)⟩
   · rw [A8 hv] at h;rw [<- h] at h2;simp at h2
 · intro h;refine Ux fun a t' hv e=>h ?_;rw [e] at hx ⊢;simp only [fJ] at hx;have:a=c:=QE (Bh hv) h0 (by
    rw [hx];apply Ei.1;rw [wE];have:=x.toNat_lt;omega)
   subst this;simp only [List.drop_succ_cons,UC];unfold l7;rw [G8 hv]
def DN (l:List UInt8) (e:Ending):Prop:=∃ (c:Int) (t:List UInt8) (ok:Bool),e=.returned (.tuple #[.agg #[.int .i64 c,.string (Y2 t)],.bool ok])/\lD l c t ok/\t.length<=l.length
theorem Eo (l:List UInt8):(Y2 l).data.toList=l:=by simp [Y2]
theorem qp (s:BY):Y2 s.data.toList=s:=by apply qg;simp [Y2]
theorem cut_small (l:List UInt8):(Lib.cut l [58]).1.length<=l.length/\(Lib.cut l [58]).2.1.length<=l.length:=by
 unfold Lib.cut;split
 · simp only [B_,Qj];omega
 · simp
theorem Xd {B j k:Nat} (h:j≠k):(⟨B,j,none⟩:Addr)≠⟨B,k,none⟩:=fun e=>h (by cases e;rfl)
theorem rz2 {u:World} (a:Below (w.heap.size+1) (w.alloc (.cells #[.int .i64 0,.string ⟨#[]⟩] 103)) u):
 (u.cell? ⟨w.heap.size,0,none⟩=some (.int .i64 0)/\u.cell? ⟨w.heap.size,1,none⟩=some (.string ⟨#[]⟩))/\u.frozen? ⟨w.heap.size,0,none⟩=false/\u.frozen? ⟨w.heap.size,1,none⟩=false:=by
 have c:∀ j,u.cell? (aW w j)=(w.alloc (.cells #[vO,vE] 103)).cell? (aW w j):=fun j=>a.cell I4;have f:∀ j,u.frozen? (aW w j)=(w.alloc (.cells #[vO,vE] 103)).frozen? (aW w j):=fun j=>a.frozen I4;rw [c,c,f,f];simp
theorem jG (a:p.block<w.heap.size) (h:w.frozen? p=false) (o:Obj):(w.alloc o).frozen? p=false:=by
 rw [((Z4 w.heap.size w).alloc x9 o).frozen a];exact h
theorem Sl (u:World) (B:Nat) (a b x0 x1:Value) (h0:u.cell? ⟨B,0,none⟩=some x0) (h1:u.cell? ⟨B,1,none⟩=some x1):
 ((u.setCell ⟨B,0,none⟩ a).setCell ⟨B,1,none⟩ b).cell? ⟨B,0,none⟩=some a/\((u.setCell ⟨B,0,none⟩ a).setCell ⟨B,1,none⟩ b).cell? ⟨B,1,none⟩=some b:=by
 have c:(u.setCell (aA B 0) a).cell? (aA B 1)=some x1:=by rw [La _ _ _ _ (Xd O0)];exact h1
 refine ⟨?_,Bf _ _ _ c⟩;rw [La _ _ _ _ (Xd O0)];exact Bf _ _ _ h0
theorem a0J (l:List UInt8) (w:World) (P:l.length<=1048700) (hm:Tc w):
 Calls prog 111 #[.string (Y2 l)] w fun e w'=>DN l e/\Bw w w':=by
 have u:=cut_small l;have b:=@AP l;have z:Bw w (w.alloc (.cells #[vO,vE] 103)):=(Z4 w.heap.size w).alloc x9 _;have q:=wP l _ P (G9 hm z);generalize ha:(Lib.cut l [58]).1=a at u b q;generalize ht:(Lib.cut l [58]).2.1=t at u b q;generalize hk:(Lib.cut l [58]).2.2=k at u b q;clear ha ht hk;have J:=kZ (Y2 a);rw [Eo,J5] at J;have I:=fun c=>JM c (Y2 t);rw [Eo,J5] at I;obtain ⟨hca,Q⟩:=u;go_enter func111,ntmps111
 go_wp2_with fail
 refine q.mono ?_;rintro e d ⟨rfl,E⟩;have s:Below (w.heap.size+1) (w.alloc (.cells #[vO,vE] 103)) d:=lF E;have n:Bw w d:=z.trans (s.mono O0);have f:w.heap.size<d.heap.size:=by have:=s.size;simp at this;omega
 clear E q
 go_wp2_with fail
 refine (J _ O0).mono ?_;rintro e w' ⟨rfl,D⟩;obtain rfl:=D.symm;clear D;obtain ⟨⟨i,g⟩,y,x⟩:=rz2 s;have L:=past (by exact f) i;have K:=past (by exact f) g;have O:=jG (by exact f) y;have N:=jG (by exact f) x;have j:¬ (k=true/\ul a=true/\vr (EH a) t=true)->Hid (DN l (.returned (.tuple #[.agg #[vO,vE],.bool false]))):=fun h=>⟨0,[],false,rfl,b.2 h,D5 _⟩;cases hk:k
 · have m:=j (by rw [hk];simp);clear j b;go_wp2;have F:=Sl d w.heap.size vO vE _ _ i g;have B:=past (p:=(aW w 0)) (by simpa using f) F.1;have A:=past (p:=(aW w 1)) (by simpa using f) F.2;refine P7 (v:=.tuple #[.agg #[vO,vE],.bool false]) (by simp [results,results111,go_sem,B,A]) rfl ⟨m.out,?_⟩
   first
    | exact ((n.setCell I4 _).setCell I4 _).alloc (by simpa using n.size) _
    | exact ((n.setCell I4 _).setCell I4 _)
 cases h7:ul a
 · have m:=j (by rw [h7];simp);clear j b;go_wp2;have F:=Sl d w.heap.size vO vE _ _ i g;have B:=past (p:=(aW w 0)) (by simpa using f) F.1;have A:=past (p:=(aW w 1)) (by simpa using f) F.2;refine P7 (v:=.tuple #[.agg #[vO,vE],.bool false]) (by simp [results,results111,go_sem,B,A]) rfl ⟨m.out,?_⟩
   first
    | exact ((n.setCell I4 _).setCell I4 _).alloc (by simpa using n.size) _
    | exact ((n.setCell I4 _).setCell I4 _)
 go_wp2_with fail
 refine (I _ _ O0).mono ?_;rintro e o ⟨rfl,r⟩;have C:=(s.alloc O0 (.cells #[vI (EH a),vS (Y2 t)] 103)).trans (r.mono U7);have H:Bw w o:=z.trans (C.mono O0);have hR3:d.heap.size<o.heap.size:=by have:=r.size;simp at this;omega
 have r0:o.cell? (aW d 0)=some (vI (EH a)):=by rw [r.cell I4];simp
 have r1:o.cell? (aW d 1)=some (vS (Y2 t)):=by rw [r.cell I4];simp
 clear i g y x L K O N r;obtain ⟨⟨i,g⟩,y,x⟩:=rz2 C;cases hv:vr (EH a) t
 · have m:=j (by rw [hv];simp);clear j b;go_wp2;refine P7 (v:=.tuple #[.agg #[vO,vE],.bool false]) (by simp [results,results111,go_sem,i,g]) rfl ⟨m.out,?_⟩;exact ((H.setCell I4 _).setCell I4 _)
 · have m:Hid (DN l (.returned (.tuple #[.agg #[vI (EH a),vS (Y2 t)],.bool true]))):=⟨EH a,t,true,rfl,b.1 hk h7 hv,Q⟩;clear j b hv;go_wp2;have F:=Sl o w.heap.size (vI (EH a)) (vS (Y2 t)) _ _ i g;refine P7 (v:=.tuple #[.agg #[vI (EH a),vS (Y2 t)],.bool true]) (by simp [results,results111,go_sem,F.1,F.2]) rfl ⟨m.out,?_⟩;exact ((H.setCell I4 _).setCell I4 _)
