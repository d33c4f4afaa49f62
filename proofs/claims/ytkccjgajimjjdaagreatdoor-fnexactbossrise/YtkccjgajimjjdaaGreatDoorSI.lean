import Derived.Test.YtkccjgajimjjdaaGreatDoorSH
import Derived.Deep.RegionHeld3
import Derived.Maps.OwnSet
import Derived.Maps.Ext
import Derived.Sort.KeysCollected
import Derived.Lib.SlKeysI
import Derived.Lib.SlMapMerge
import Derived.Shelf.SlIter.Nil
import Derived.Shelf.SlIterI.Nil
import Derived.Shelf.SortM.Plain
import Derived.Shelf.SortM.SortNone
import Derived.Ground.GgzProg
import Derived.Ground.SlgmProg
set_option linter.unusedVariables false
namespace Go.Proofs.YtkccjgajimjjdaaGreatDoor
variable{P:Program}{ops:Array Oper}{Q:Exit->Act->World->Prop}{S:World->Prop}{a:Act}{w:World}{md:Region.Mode}{fuel i:Nat}{listed:Array Bool}{b:Oper}{v:Value}{d:Option Nat}{op:Op}{ty:TypeId}{p:String}{af:Array Edge}{g:Option (Nat×Bool)}
theorem qq:(∀(a:Act)(d:Nat)(v:Value),a.put (some d) v={ a with tmps:=a.tmps.setIfInBounds d v })/\(∀(a:Act)(v:Value),a.put none v=a)/\(∀{α:Type}(l:List α)(i:Nat)(a:α),l.toArray.setIfInBounds i a=(l.set i a).toArray)/\(∀{α:Type}(x:α)(l:List α)(a:α),(x::l).set 0 a=a::l)/\∀{α:Type}(x:α)(l:List α)(i:Nat)(a:α),(x::l).set (i+1) a=x::l.set i a:=⟨λ_ _ _=>rfl,λ_ _=>rfl,λ_ _ _=>MQ ..,λ_ _ _=>rfl,λ_ _ _ _=>rfl⟩
theorem FI{V:World}{c:Nat}(C:Go.RowKit.Hid (∀u,Go.RowKit.Below V.heap.size V u->S u))(b:Go.RowKit.Below V.heap.size V w.drew)(hm:P.follows .mixedOrders=true)(h:S w.drew->wpAnyH P .any ops Q S ops.size (Array.replicate ops.size false) a w.drew):(Code.region c ops true).wp P Q a w:=wp_region_held_drew hm (C.out _ b) h
theorem rd{o:Oper}(ho:ops[i]?=some o)(hr:Region.ready md ops listed=[i])(h:∀b:Act->World->Prop,Shut (∀a w,S w->(S w->wpAnyH P md ops Q S fuel (listed.setIfInBounds i true) a w)->b a w)->if Region.wanted o (yielded ops a.tmps)=true then Oper.wp P o a w b Q else b (a.put o.dst undef) w):wpAnyH P md ops Q S (fuel+1) listed a w:=wpAnyH_ready hr E5 (AllReadyH.cons ho h AllReadyH.nil)
theorem tk(e:ops[i]?=some b)(d:(Region.noSelect ops&&Region.free md ops listed i&&(Region.ready md ops listed).contains i)=true)(hw:Region.wanted b (yielded ops a.tmps)=true)(hv:∀u,S u->(execOp a.eval b).run P u=.ok (.value v) u)(f:S w)(h:wpAnyH P md ops Q S fuel (listed.setIfInBounds i true) (a.put b.dst v) w)(hQ:∀c a w,Q (.panic c) (a.put b.dst v) w->Q (.panic c) a w:=by exact λ_ _ _ h=>h):wpAnyH P md ops Q S (fuel+1) listed a w:=by
 simp only[Ia]at d;exact wpAnyH_take e d.1.1 d.1.2 d.2 hQ (.inl ⟨hw,hv⟩) f h
theorem tu(e:ops[i]?=some b)(d:(Region.noSelect ops&&Region.free md ops listed i&&(Region.ready md ops listed).contains i)=true)(hw:Region.wanted b (yielded ops a.tmps)=false)(f:S w)(h:wpAnyH P md ops Q S fuel (listed.setIfInBounds i true) (a.put b.dst undef) w)(hQ:∀c a w,Q (.panic c) (a.put b.dst undef) w->Q (.panic c) a w:=by exact λ_ _ _ h=>h):wpAnyH P md ops Q S (fuel+1) listed a w:=by
 simp only[Ia]at d;exact wpAnyH_take e d.1.1 d.1.2 d.2 hQ (.inr ⟨hw,rfl⟩) f h
theorem tq(i:Nat)(f:S w)(h:wpAnyH P md ops Q S fuel (listed.setIfInBounds i true) (a.put d v) w)(b:ops[i]?=some ⟨d,op,ty,p,af,g⟩:=by exact rfl)(e:(Region.noSelect ops&&Region.free md ops listed i&&(Region.ready md ops listed).contains i)=true:=by kernel_rfl)(hw:Region.wanted ⟨d,op,ty,p,af,g⟩ (yielded ops a.tmps)=true:=by exact rfl)(hv:∀u,S u->(execOp a.eval ⟨d,op,ty,p,af,g⟩).run P u=.ok (.value v) u:=by intro wq hSw;(try dsimp only at hSw);go_simp;try with_reducible rfl)(hQ:∀c a w,Q (.panic c) (a.put d v) w->Q (.panic c) a w:=by first|exact λ_ _ _ h=>h|exact λ_ _ _ h=>hQ _ _ _ _ _ h):wpAnyH P md ops Q S (fuel+1) listed a w:=tk b e hw hv f h hQ
theorem uq(i:Nat)(f:S w)(h:wpAnyH P md ops Q S fuel (listed.setIfInBounds i true) (a.put d undef) w)(b:ops[i]?=some ⟨d,op,ty,p,af,g⟩:=by exact rfl)(e:(Region.noSelect ops&&Region.free md ops listed i&&(Region.ready md ops listed).contains i)=true:=by kernel_rfl)(hw:Region.wanted ⟨d,op,ty,p,af,g⟩ (yielded ops a.tmps)=false:=by exact rfl)(hQ:∀c a w,Q (.panic c) (a.put d undef) w->Q (.panic c) a w:=by first|exact λ_ _ _ h=>h|exact λ_ _ _ h=>hQ _ _ _ _ _ h):wpAnyH P md ops Q S (fuel+1) listed a w:=tu b e hw f h hQ
section
variable{P:Program}{ops:Array Oper}{md:Region.Mode}{v:Value}{fuel:Nat}{listed:Array Bool}{a:Act}{w:World}{d:Option Nat}{op:Op}{ty:TypeId}{p:String}{af:Array Edge}
theorem p_{Q:Exit->Act->World->Prop}{S:World->Prop}{g:Option (Nat×Bool)}{a1:Act}(i:Nat)(h:wpAnyH P md ops Q S fuel (listed.setIfInBounds i true) a1 w)(f:S w:=by assumption)(b:ops[i]?=some ⟨d,op,ty,p,af,g⟩:=by exact rfl)(e:(Region.noSelect ops&&Region.free md ops listed i&&(Region.ready md ops listed).contains i)=true:=by kernel_rfl)(hw:Region.wanted ⟨d,op,ty,p,af,g⟩ (yielded ops a.tmps)=true:=by exact rfl)(hv:∀u,S u->(execOp a.eval ⟨d,op,ty,p,af,g⟩).run P u=.ok (.value v) u:=by intro wq hSw;(try dsimp only at hSw);go_simp;try with_reducible rfl)(hQ:∀c a w,Q (.panic c) (a.put d v) w->Q (.panic c) a w:=by first|exact λ_ _ _ h=>h|exact λ_ _ _ h=>hQ _ _ _ _ _ h)(j:a.put d v=a1:=by first|(simp only[qq];rfl)|rfl):wpAnyH P md ops Q S (fuel+1) listed a w:=tq i f (j▸h) b e hw hv hQ
theorem uqq{Q:Exit->Act->World->Prop}{S:World->Prop}{g:Option (Nat×Bool)}{a1:Act}(i:Nat)(h:wpAnyH P md ops Q S fuel (listed.setIfInBounds i true) a1 w)(f:S w:=by assumption)(b:ops[i]?=some ⟨d,op,ty,p,af,g⟩:=by exact rfl)(e:(Region.noSelect ops&&Region.free md ops listed i&&(Region.ready md ops listed).contains i)=true:=by kernel_rfl)(hw:Region.wanted ⟨d,op,ty,p,af,g⟩ (yielded ops a.tmps)=false:=by exact rfl)(hQ:∀c a w,Q (.panic c) (a.put d undef) w->Q (.panic c) a w:=by first|exact λ_ _ _ h=>h|exact λ_ _ _ h=>hQ _ _ _ _ _ h)(j:a.put d undef=a1:=by first|(simp only[qq];rfl)|rfl):wpAnyH P md ops Q S (fuel+1) listed a w:=uq i f (j▸h) b e hw hQ
theorem A8{S:World->Prop}{X K:Act->World->Prop}{a1:Act}(c:Shut (∀a w,S w->(S w->X a w)->K a w))(b:S w)(h:S w->X a1 w)(d:a=a1:=by first|(simp only[qq];rfl)|rfl):K a w:=c.out _ _ b (d▸h)
theorem xU{S:World->Prop}{X K:Act->World->Prop}{a1:Act}(c:Shut (∀a w,S w->(S w->X a w)->K a w))(h:S w->X a1 w)(b:S w:=by (try dsimp only);go_keep)(d:a=a1:=by first|(simp only[qq];rfl)|rfl):K a w:=c.out _ _ b (d▸h)
theorem kpk{S:World->Prop}{X K:Act->World->Prop}(c:Shut (∀a w,S w->(S w->X a w)->K a w))(h:S w->X a w)(b:S w:=by (try dsimp only);go_keep):K a w:=c.out _ _ b h
theorem wdn{Q:Exit->Act->World->Prop}{S:World->Prop}(h:Q .normal a w)(hr:Region.ready md ops listed=[]:=by kernel_rfl):wpAnyH P md ops Q S fuel listed a w:=wpAnyH_done hr h _
end
theorem rq{P:Program}{ops:Array Oper}{Q:Exit->Act->World->Prop}{md:Region.Mode}{S:World->Prop}{fuel:Nat}{listed:Array Bool}{a:Act}{w:World}{d:Option Nat}{op:Op}{ty:TypeId}{p:String}{af:Array Edge}{g:Option (Nat×Bool)}(i:Nat)(h:∀b:Act->World->Prop,Shut (∀a w,S w->(S w->wpAnyH P md ops Q S fuel (listed.setIfInBounds i true) a w)->b a w)->if Region.wanted ⟨d,op,ty,p,af,g⟩ (yielded ops a.tmps)=true then Oper.wp P ⟨d,op,ty,p,af,g⟩ a w b Q else b (a.put d undef) w)(ho:ops[i]?=some ⟨d,op,ty,p,af,g⟩:=by exact rfl)(hr:Region.ready md ops listed=[i]:=by kernel_rfl):wpAnyH P md ops Q S (fuel+1) listed a w:=rd ho hr h
def nx(ls:List Bool):Nat->List Oper->Option Nat
 | _,[]=>none
 | k,o::r=>cond (!(ls.getD k true)&&o.after.toList.all λe=>ls.getD e.on false) (some k) (nx ls (k+1) r)
theorem sq{P:Program}{ops:Array Oper}{Q:Exit->Act->World->Prop}{md:Region.Mode}{S:World->Prop}{v:Value}{fuel:Nat}{listed:Array Bool}{a a1:Act}{w:World}{d:Option Nat}{op:Op}{ty:TypeId}{p:String}{af:Array Edge}{g:Option (Nat×Bool)}{i:Nat}(h:wpAnyH P md ops Q S fuel (listed.setIfInBounds i true) a1 w)(j:S w:=by assumption)(hr:nx listed.toList 0 ops.toList=some i:=by exact rfl)(f:ops[i]?=some ⟨d,op,ty,p,af,g⟩:=by exact rfl)(b:(Region.noSelect ops&&Region.free md ops listed i&&(Region.ready md ops listed).contains i)=true:=by kernel_rfl)(hw:(Region.wanted ⟨d,op,ty,p,af,g⟩ (yielded ops a.tmps)=true/\∀u,S u->(execOp a.eval ⟨d,op,ty,p,af,g⟩).run P u=.ok (.value v) u)\/(Region.wanted ⟨d,op,ty,p,af,g⟩ (yielded ops a.tmps)=false/\v=undef):=by first|exact .inr ⟨rfl,rfl⟩|(refine .inl ⟨rfl,?_⟩;intro wq hSw;(try dsimp only at hSw);go_simp;try with_reducible rfl))(hQ:∀c a w,Q (.panic c) (a.put d v) w->Q (.panic c) a w:=by first|exact λ_ _ _ h=>h|exact λ_ _ _ h=>hQ _ _ _ _ _ h)(k:a.put d v=a1:=by first|(simp only[qq];rfl)|rfl):wpAnyH P md ops Q S (fuel+1) listed a w:=by
 simp only[Ia]at b;refine wpAnyH_take f b.1.1 b.1.2 b.2 hQ (hw.imp id λ⟨h,e⟩=>⟨h,e⟩) j (k▸h)
end Go.Proofs.YtkccjgajimjjdaaGreatDoor
namespace Go.Proofs.YtkccjgajimjjdaaGreatDoor
open Go.RowKit Go.Maps
variable{a b k:BY}{l:List (ByteArray×Value)}
def Ub(v:Value):Option (DataW Value×List MemPlace):=some (.held v,[])
def kS(s:BY):Lit:=.string s.data.toList
def eS(p:BY×Value):Lit×DataW Value:=(kS p.1,.held p.2)
def mapD(l:List (ByteArray×Value)):DataW Value:=.map (l.map eS)
def Ar(a b:BY):Bool:=bytesBefore a.data.toList b.data.toList
def oh(x:BY×Value):List (ByteArray×Value)->List (ByteArray×Value)
 | []=>[x]
 | y::r=>if Ar x.1 y.1 then x::y::r else y::oh x r
def Asc(l:List (ByteArray×Value)):Prop:=l.Pairwise λp q=>Ar p.1 q.1=true
def Ya(l:List (ByteArray×Value))(k:BY):Option Value:=(l.find? λp=>decide (p.1=k)).map (·.2)
theorem ZK(h:a.data.toList=b.data.toList):a=b:=by
 apply Xf;exact Zl.1 h
theorem Oy(a b:BY):(kS a).sameKey (kS b)=decide (a=b):=by
 show(a.data.toList==b.data.toList)=decide (a=b);by_cases h:a=b
 ·simp[h]
 rw[o_ h];exact V_.2 (λe=>h (ZK e))
theorem yL(l:List (ByteArray×Value))(k:BY)(z:DataW Value):(mapD l).atKey (kS k) z=match Ya l k with|some v=>.held v|none=>z:=by
 unfold mapD DataW.atKey Ya;simp only[List.find?_map];have e:((λp:Lit×DataW Value=>p.1.sameKey (kS k))∘eS)=λp=>decide (p.1=k):=funext λp=>Oy p.1 k;rw[e];cases List.find? (λp:BY×Value=>decide (p.1=k)) l<;>rfl
theorem JQ(l:List (ByteArray×Value))(k:BY):has (mapD l) (kS k)=(Ya l k).isSome:=by
 show(l.map eS).any (λp=>p.1.sameKey (kS k))=_;rw[List.any_map];have e:((λp:Lit×DataW Value=>p.1.sameKey (kS k))∘eS)=λp=>decide (p.1=k):=funext λp=>Oy p.1 k;rw[e];unfold Ya;rw[Option.isSome_map,Bool.eq_iff_iff];simp
theorem Ad(l:List (ByteArray×Value)):size (mapD l)=l.length:=by
 show(l.map eS).length=_;simp
theorem nD(l:List (ByteArray×Value)):strKeys (mapD l)=l.map λp=>p.1.data.toList:=by
 show(l.map eS).map _=_;simp[eS,kS,strOf,Function.comp_def]
theorem ML(x:BY×Value)(l:List (ByteArray×Value)):(oh x l).map eS=DataW.insert (eS x) (l.map eS):=by
 induction l with
 | nil=>rfl
 | cons y r ih=>
  unfold oh;show _=if (kS x.1).before (kS y.1)=true then _ else _;show List.map eS (if bytesBefore x.1.data.toList y.1.data.toList=true then _ else _)=if bytesBefore x.1.data.toList y.1.data.toList=true then _ else _;split
  ·rfl
  simp[ih]
theorem Fb:Ya l k=none↔∀p∈l,p.1≠k:=by
 unfold Ya;simp
theorem BB(v:Value)(h:Ya l k=none):(mapD l).put (kS k) (.held v)=mapD (oh (k,v) l):=by
 show DataW.map (DataW.insert (eS (k,v)) ((l.map eS).filter λp=>!p.1.sameKey (kS k)))=DataW.map ((oh (k,v) l).map eS);rw[ML]
 congr 2
 rw[VI];intro p b;obtain⟨q,a,rfl⟩:=zl.1 b;show(!(kS q.1).sameKey (kS k))=true;rw[Oy,o_ (Fb.1 h q a)];rfl
theorem Ce(x:BY×Value)(l:List (ByteArray×Value)):(oh x l).Perm (x::l):=by
 induction l with
 | nil=>exact YE _
 | cons y r ih=>
  unfold oh;split
  ·exact YE _
  exact(ih.cons y).trans (List.Perm.swap x y r)
theorem En(a:BY):Ar a a=false:=WideAt.bytes_irrefl _
theorem Iz{c:BY}(h:Ar a b=true)(d:Ar b c=true):Ar a c=true:=WideShapes.bytes_trans _ _ _ h d
theorem mM(h:a≠b):Ar a b=true\/Ar b a=true:=WideAt.bytes_total _ _ (λe=>h (ZK e))
theorem ou{x:BY×Value}(h:Asc l)(hx:∀p∈l,p.1≠x.1):Asc (oh x l):=by
 induction l with
 | nil=>exact List.pairwise_singleton _ _
 | cons y r ih=>
  have c:=Hz.1 h;unfold oh;split
  ·rename_i b;exact Hz.2 ⟨λp a=>by
    rcases Xe.1 a with rfl|a
    ·exact b
    exact Iz b (c.1 p a),h⟩
  rename_i b;have d:=(mM (hx y (Vr ..))).elim id (λe=>absurd e b);refine Hz.2 ⟨λp a=>?_,ih c.2 (λp a=>hx p (Og _ a))⟩;rcases Xe.1 ((Ce x r).mem_iff.1 a)with rfl|a
  ·exact d
  exact c.1 p a
theorem a0M{c:List (ByteArray×Value)}(h:Asc l)(e:Asc c)(d:l.Perm c):l=c:=by
 refine List.Perm.eq_of_pairwise (le:=λ(p q:BY×Value)=>Ar p.1 q.1=true) (λa b _ _ h1 h2=>?_) h e d;have:=Iz h1 h2;rw[En]at this;cases this
theorem Kz{v:Value}(h:Ya l k=some v):(k,v)∈l:=by
 unfold Ya at h;obtain⟨p,a,rfl⟩:=WB.1 h;have h1:=qP a;have h2:=nJ a;simp at h2;rw[<- h2];exact h1
theorem Wp(h:Asc l){k:BY}{v:Value}(hm:(k,v)∈l):Ya l k=some v:=by
 induction l with
 | nil=>cases hm
 | cons y r ih=>
  have a:=Hz.1 h;rcases Xe.1 hm with rfl|hm
  ·simp[Ya]
  have b:y.1≠k:=λe=>by
   have:=a.1 _ hm;rw[e]at this;simp only[En]at this;cases this
  have hr:=ih a.2 hm;unfold Ya at hr ⊢;rw[List.find?_cons_of_neg (by simpa using b)];exact hr
theorem WI(f l:List (ByteArray×Value))(hf:Asc f)(hl:Asc l)(hd:∀p∈f,Ya l p.1=none):Asc (f.foldl (λa p=>oh p a) l)/\(f.foldl (λa p=>oh p a) l).Perm (f++l)/\Lib.mergeD (mapD l) (mapD f)=mapD (f.foldl (λa p=>oh p a) l):=by
 show _/\_/\(f.map eS).foldl (λD p=>D.put p.1 p.2) (mapD l)=_
 induction f generalizing l with
 | nil=>exact⟨hl,YE _,rfl⟩
 | cons y r ih=>
  have g:=Hz.1 hf;have c:=hd y (Vr ..);obtain⟨j,i,h⟩:=ih (oh y l) g.2 (ou hl (Fb.1 c)) (λp d=>Fb.2 (λq b=>by
   rcases Xe.1 ((Ce y l).mem_iff.1 b)with rfl|b
   ·intro e;have:=g.1 p d;rw[e,En]at this;cases this
   exact Fb.1 (hd p (Og _ d)) q b))
  refine⟨j,?_,?_⟩
  ·show(List.foldl (λa p=>oh p a) (oh y l) r).Perm (y::(r++l));exact i.trans (((Ce y l).append_left r).trans List.perm_middle)
  show(r.map eS).foldl (λD p=>D.put p.1 p.2) ((mapD l).put (kS y.1) (.held y.2))=_;rw[BB y.2 c];exact h
theorem jI:∀(a b:List UInt8),bytesBefore a b=true->a<=b
 | [],_,_=>List.nil_le _
 | _::_,[],h=>by simp[bytesBefore]at h
 | x::r,y::s,h=>by
  simp[bytesBefore]at h;rcases h with h|⟨rfl,h⟩
  ·exact List.le_of_lt (List.Lex.rel h)
  exact List.cons_le_cons_iff.2 (.inr ⟨rfl,jI r s h⟩)
theorem oI(h:Asc l){ss:List (List UInt8)}(a:ss.Perm (strKeys (mapD l))):ss.mergeSort (λx y=>decide (x<=y))=l.map λp=>p.1.data.toList:=by
 rw[nD]at a;have e:=mergeSort_of_perm a;show ss.mergeSort leB=_;rw[e];apply CQ;refine List.pairwise_map.2 (h.imp λ{p q} hb=>?_);simpa[leB]using jI _ _ hb
def iE(i:Nat)(v:Value):Lit×DataW Value:=(.int .i64 i,.held v)
def intD(vs:List Value):DataW Value:=.map ((List.range vs.length).map λi=>iE i (vs.getD i undef))
theorem Om(vs:List Value):size (intD vs)=vs.length:=by
 show((List.range vs.length).map λi=>iE i (vs.getD i undef)).length=_;simp
theorem tC(vs:List Value):intKeys (intD vs)=(List.range vs.length).map λi:Nat=>(i:Int):=by
 show((List.range vs.length).map λi=>iE i (vs.getD i undef)).map _=_;simp[iE,Go.intOf,Function.comp_def]
theorem ZX(vs:List Value)(k:Nat)(z:DataW Value):(intD vs).atKey (.int .i64 k) z=if k<vs.length then .held (vs.getD k undef) else z:=by
 unfold intD DataW.atKey;simp only[List.find?_map];have e:((λp:Lit×DataW Value=>p.1.sameKey (.int .i64 k))∘λi=>iE i (vs.getD i undef))=λi=>decide (i=k):=funext λi=>by simp[iE,Lit.sameKey];omega
 rw[e];by_cases h:k<vs.length
 ·rw[L8 h];have:List.find? (λi=>decide (i=k)) (List.range vs.length)=some k:=by
   cases hq:List.find? (λi=>decide (i=k)) (List.range vs.length) with
   | none=>exact absurd (IA.1 hq k (Ip.2 h)) E5
   | some j=>have:=nJ hq;simp at this;rw[this]
  rw[this];rfl
 rw[Y7 h];have:List.find? (λi=>decide (i=k)) (List.range vs.length)=none:=IA.2 (λj a=>by have:=Ip.1 a;simp;omega);rw[this];rfl
theorem ZQ(x:Lit×DataW Value)(l:List (Lit×DataW Value))(h:∀p∈l,x.1.before p.1=false):DataW.insert x l=l++[x]:=by
 induction l with
 | nil=>rfl
 | cons y r ih=>
  unfold DataW.insert;rw[h y (Vr ..),ih (λp a=>h p (Og _ a))];simp
theorem dQ(vs:List Value)(v:Value):(intD vs).put (.int .i64 vs.length) (.held v)=intD (vs++[v]):=by
 show DataW.map (DataW.insert (iE vs.length v) (((List.range vs.length).map λi=>iE i (vs.getD i undef)).filter λp=>!p.1.sameKey (.int .i64 vs.length)))=DataW.map ((List.range (vs++[v]).length).map λi=>iE i ((vs++[v]).getD i undef))
 congr 1
 rw[VI.2,ZQ]
 ·rw[P9,Oj,Uy,Rk]
  congr 1
  ·apply Tz;intro i a;have:=Ip.1 a;unfold iE;simp[List.getD,G_ this]
  simp[iE,List.getD]
 ·intro p b;obtain⟨i,a,rfl⟩:=zl.1 b;have:=Ip.1 a;show decide ((vs.length:Int)<(i:Int))=false;simp;omega
 intro p b;obtain⟨i,a,rfl⟩:=zl.1 b;have:=Ip.1 a;simp[iE,Lit.sameKey];omega
theorem WH{vs:List Value}{ss:List Int}(a:ss.Perm (intKeys (intD vs))):ss.mergeSort (λx y=>decide (x<=y))=(List.range vs.length).map λi:Nat=>(i:Int):=by
 rw[tC]at a;have e:=mergeSort_of_perm_i a;show ss.mergeSort leI=_;rw[e];apply CQ;refine List.pairwise_map.2 (List.pairwise_lt_range.imp λ{p q} hb=>?_);simp[leI];omega
end Go.Proofs.YtkccjgajimjjdaaGreatDoor
namespace Go.Proofs
open Go.Shelf
def Tryz.keysA_ren:Go.Shelf.Ren:=⟨λ| 7=>238|10=>279|n=>n, λ| 23=>232|26=>9|3=>240|28=>308|0=>0|27=>307|33=>106|4=>4|n=>n, λ| n=>n⟩
theorem Tryz.keysA:Go.Proofs.SlLaysZ.n7 prog Tryz.keysA_ren:={
 mixed:=Y1
 f7:=⟨Tryz.f238.name,Z5,func238.trans (l7 some Y1)⟩
 f10:=⟨Tryz.f279.name,Z5,func279.trans (l7 some Y1)⟩
 t0:=underlying0
 a0:=Tryz.isAgg0
 z0:=Tryz.sizeOf0
 v0:=Tryz.zeroValue0
 t4:=underlying4
 a4:=Tryz.isAgg4
 z4:=Tryz.sizeOf4
 v4:=Tryz.zeroValue4
 t23:=underlying232
 a23:=Tryz.isAgg232
 z23:=Tryz.sizeOf232
 v23:=Tryz.zeroValue232
 t26:=underlying9
 a26:=Tryz.isAgg9
 z26:=Tryz.sizeOf9
 v26:=Tryz.zeroValue9
 t27:=underlying307
 a27:=Tryz.isAgg307
 z27:=Tryz.sizeOf307
 v27:=Tryz.zeroValue307
 t28:=underlying308
 a28:=Tryz.isAgg308
 z28:=Tryz.sizeOf308
 v28:=Tryz.zeroValue308
 t33:=underlying106
 a33:=Tryz.isAgg106
 z33:=Tryz.sizeOf106
 v33:=Tryz.zeroValue106 }
def Tryz.sortedA_ren:Go.Shelf.Ren:=⟨λ| 6=>237|8=>277|9=>278|11=>305|13=>307|12=>306|23=>332|24=>311|14=>323|15=>324|16=>325|17=>326|18=>327|19=>328|20=>329|21=>330|22=>331|25=>347|26=>348|27=>349|28=>350|29=>351|30=>352|31=>357|n=>n, λ| 26=>9|28=>308|24=>22|0=>0|3=>3|37=>314|48=>358|50=>338|4=>4|40=>405|39=>404|45=>265|5=>5|9=>9|51=>418|55=>422|57=>432|58=>433|33=>106|n=>n, λ| n=>n⟩
theorem Tryz.sortedA:Go.Proofs.SlLaysZ.n6 prog Tryz.sortedA_ren:={
 mixed:=Y1
 f6:=⟨Tryz.f237.name,Z5,func237.trans (l7 some Y1)⟩
 f8:=⟨Tryz.f277.name,Z5,func277.trans (l7 some Y1)⟩
 f11:=⟨Tryz.f305.name,Z5,func305.trans (l7 some Y1)⟩
 t0:=underlying0
 a0:=Tryz.isAgg0
 z0:=Tryz.sizeOf0
 v0:=Tryz.zeroValue0
 t24:=underlying22
 a24:=Tryz.isAgg22
 z24:=Tryz.sizeOf22
 v24:=Tryz.zeroValue22
 t26:=underlying9
 a26:=Tryz.isAgg9
 z26:=Tryz.sizeOf9
 v26:=Tryz.zeroValue9
 t28:=underlying308
 a28:=Tryz.isAgg308
 z28:=Tryz.sizeOf308
 v28:=Tryz.zeroValue308
 i26:=by kernel_rfl }
def Tryz.YO:Go.Shelf.Ren:=⟨λ| 6=>278|8=>307|9=>306|19=>332|20=>311|21=>323|22=>324|23=>325|24=>326|25=>327|26=>328|27=>329|28=>330|29=>331|36=>347|31=>348|32=>349|37=>350|38=>351|39=>352|41=>357|n=>n, λ| 27=>22|29=>9|3=>3|32=>314|26=>22|0=>0|44=>358|46=>338|4=>4|36=>405|35=>404|41=>265|5=>5|9=>9|53=>418|57=>422|63=>432|64=>433|n=>n, λ| n=>n⟩
theorem Tryz.sortA:Go.Proofs.SlLaysM.n6 prog Tryz.YO:={
 mixed:=Y1
 f6:=⟨Tryz.f278.name,Z5,func278.trans (l7 some Y1)⟩
 f8:=func307.trans (l7 some Y1)
 f9:=⟨Tryz.f306.name,Z5,func306.trans (l7 some Y1)⟩
 f19:=func332.trans (l7 some Y1)
 f20:=func311.trans (l7 some Y1)
 f21:=⟨Tryz.f323.name,Z5,func323.trans (l7 some Y1)⟩
 f22:=⟨Tryz.f324.name,Z5,func324.trans (l7 some Y1)⟩
 f23:=⟨Tryz.f325.name,Z5,func325.trans (l7 some Y1)⟩
 f24:=⟨Tryz.f326.name,Z5,func326.trans (l7 some Y1)⟩
 f25:=⟨Tryz.f327.name,Z5,func327.trans (l7 some Y1)⟩
 f26:=⟨Tryz.f328.name,Z5,func328.trans (l7 some Y1)⟩
 f27:=⟨Tryz.f329.name,Z5,func329.trans (l7 some Y1)⟩
 f28:=⟨Tryz.f330.name,Z5,func330.trans (l7 some Y1)⟩
 f29:=⟨Tryz.f331.name,Z5,func331.trans (l7 some Y1)⟩
 f31:=func348.trans (l7 some Y1)
 f32:=func349.trans (l7 some Y1)
 f36:=⟨Tryz.f347.name,Z5,func347.trans (l7 some Y1)⟩
 f37:=⟨Tryz.f350.name,Z5,func350.trans (l7 some Y1)⟩
 f38:=⟨Tryz.f351.name,Z5,func351.trans (l7 some Y1)⟩
 f39:=⟨Tryz.f352.name,Z5,func352.trans (l7 some Y1)⟩
 f41:=⟨Tryz.f357.name,Z5,func357.trans (l7 some Y1)⟩
 t0:=underlying0
 a0:=Tryz.isAgg0
 z0:=Tryz.sizeOf0
 v0:=Tryz.zeroValue0
 t3:=underlying3
 a3:=Tryz.isAgg3
 z3:=Tryz.sizeOf3
 v3:=Tryz.zeroValue3
 t4:=underlying4
 a4:=Tryz.isAgg4
 z4:=Tryz.sizeOf4
 v4:=Tryz.zeroValue4
 t5:=underlying5
 a5:=Tryz.isAgg5
 z5:=Tryz.sizeOf5
 v5:=Tryz.zeroValue5
 t9:=underlying9
 a9:=Tryz.isAgg9
 z9:=Tryz.sizeOf9
 v9:=Tryz.zeroValue9
 t26:=underlying22
 a26:=Tryz.isAgg22
 z26:=Tryz.sizeOf22
 v26:=Tryz.zeroValue22
 t27:=underlying22
 a27:=Tryz.isAgg22
 z27:=Tryz.sizeOf22
 v27:=Tryz.zeroValue22
 t29:=underlying9
 a29:=Tryz.isAgg9
 z29:=Tryz.sizeOf9
 v29:=Tryz.zeroValue9
 t32:=underlying314
 a32:=Tryz.isAgg314
 z32:=Tryz.sizeOf314
 v32:=Tryz.zeroValue314
 t35:=underlying404
 a35:=Tryz.isAgg404
 z35:=Tryz.sizeOf404
 v35:=Tryz.zeroValue404
 t36:=underlying405
 a36:=Tryz.isAgg405
 z36:=Tryz.sizeOf405
 v36:=Tryz.zeroValue405
 t41:=underlying265
 a41:=Tryz.isAgg265
 z41:=Tryz.sizeOf265
 v41:=Tryz.zeroValue265
 t44:=underlying358
 a44:=Tryz.isAgg358
 z44:=Tryz.sizeOf358
 v44:=Tryz.zeroValue358
 t46:=underlying338
 a46:=Tryz.isAgg338
 z46:=Tryz.sizeOf338
 v46:=Tryz.zeroValue338
 t53:=underlying418
 a53:=Tryz.isAgg418
 z53:=Tryz.sizeOf418
 v53:=Tryz.zeroValue418
 t57:=underlying422
 a57:=Tryz.isAgg422
 z57:=Tryz.sizeOf422
 v57:=Tryz.zeroValue422
 t63:=underlying432
 a63:=Tryz.isAgg432
 z63:=Tryz.sizeOf432
 v63:=Tryz.zeroValue432
 t64:=underlying433
 a64:=Tryz.isAgg433
 z64:=Tryz.sizeOf433
 v64:=Tryz.zeroValue433 }
def Tryz.keysB_ren:Go.Shelf.Ren:=⟨λ| 7=>241|10=>282|n=>n, λ| 23=>233|26=>3|3=>162|28=>312|0=>0|27=>311|33=>104|4=>4|n=>n, λ| n=>n⟩
theorem Tryz.keysB:Go.Proofs.SlLaysZI.n7 prog Tryz.keysB_ren:={
 mixed:=Y1
 f7:=⟨Tryz.f241.name,Z5,func241.trans (l7 some Y1)⟩
 f10:=⟨Tryz.f282.name,Z5,func282.trans (l7 some Y1)⟩
 t0:=underlying0
 a0:=Tryz.isAgg0
 z0:=Tryz.sizeOf0
 v0:=Tryz.zeroValue0
 t4:=underlying4
 a4:=Tryz.isAgg4
 z4:=Tryz.sizeOf4
 v4:=Tryz.zeroValue4
 t23:=underlying233
 a23:=Tryz.isAgg233
 z23:=Tryz.sizeOf233
 v23:=Tryz.zeroValue233
 t26:=underlying3
 a26:=Tryz.isAgg3
 z26:=Tryz.sizeOf3
 v26:=Tryz.zeroValue3
 t27:=underlying311
 a27:=Tryz.isAgg311
 z27:=Tryz.sizeOf311
 v27:=Tryz.zeroValue311
 t28:=underlying312
 a28:=Tryz.isAgg312
 z28:=Tryz.sizeOf312
 v28:=Tryz.zeroValue312
 t33:=underlying104
 a33:=Tryz.isAgg104
 z33:=Tryz.sizeOf104
 v33:=Tryz.zeroValue104 }
def Tryz.sortedB_ren:Go.Shelf.Ren:=⟨λ| 6=>240|8=>280|9=>281|11=>308|13=>307|12=>309|23=>332|24=>311|14=>333|15=>334|16=>335|17=>336|18=>337|19=>338|20=>339|21=>340|22=>341|25=>353|26=>348|27=>349|28=>354|29=>355|30=>356|31=>358|n=>n, λ| 26=>3|28=>312|24=>31|0=>0|3=>3|37=>314|48=>358|50=>338|4=>4|40=>405|39=>404|45=>265|5=>5|9=>9|51=>418|55=>422|57=>432|58=>433|33=>104|n=>n, λ| n=>n⟩
theorem Tryz.sortedB:Go.Proofs.SlLaysZI.n6 prog Tryz.sortedB_ren:={
 mixed:=Y1
 f6:=⟨Tryz.f240.name,Z5,func240.trans (l7 some Y1)⟩
 f8:=⟨Tryz.f280.name,Z5,func280.trans (l7 some Y1)⟩
 f11:=⟨Tryz.f308.name,Z5,func308.trans (l7 some Y1)⟩
 t0:=underlying0
 a0:=Tryz.isAgg0
 z0:=Tryz.sizeOf0
 v0:=Tryz.zeroValue0
 t24:=underlying31
 a24:=Tryz.isAgg31
 z24:=Tryz.sizeOf31
 v24:=Tryz.zeroValue31
 t26:=underlying3
 a26:=Tryz.isAgg3
 z26:=Tryz.sizeOf3
 v26:=Tryz.zeroValue3
 t28:=underlying312
 a28:=Tryz.isAgg312
 z28:=Tryz.sizeOf312
 v28:=Tryz.zeroValue312
 i26:=by kernel_rfl }
def Tryz.xO:Go.Shelf.Ren:=⟨λ| 5=>281|8=>307|7=>309|19=>332|20=>311|10=>333|11=>334|12=>335|13=>336|14=>337|15=>338|16=>339|17=>340|18=>341|30=>353|31=>348|32=>349|33=>354|34=>355|35=>356|40=>358|n=>n, λ| 23=>31|25=>3|3=>3|32=>314|22=>31|0=>0|44=>358|46=>338|4=>4|36=>405|35=>404|41=>265|5=>5|9=>9|53=>418|57=>422|63=>432|64=>433|n=>n, λ| n=>n⟩
theorem Tryz.sortB:Go.Proofs.SlLaysM.n5 prog Tryz.xO:={
 mixed:=Y1
 f5:=⟨Tryz.f281.name,Z5,func281.trans (l7 some Y1)⟩
 f7:=⟨Tryz.f309.name,Z5,func309.trans (l7 some Y1)⟩
 f8:=func307.trans (l7 some Y1)
 f10:=⟨Tryz.f333.name,Z5,func333.trans (l7 some Y1)⟩
 f11:=⟨Tryz.f334.name,Z5,func334.trans (l7 some Y1)⟩
 f12:=⟨Tryz.f335.name,Z5,func335.trans (l7 some Y1)⟩
 f13:=⟨Tryz.f336.name,Z5,func336.trans (l7 some Y1)⟩
 f14:=⟨Tryz.f337.name,Z5,func337.trans (l7 some Y1)⟩
 f15:=⟨Tryz.f338.name,Z5,func338.trans (l7 some Y1)⟩
 f16:=⟨Tryz.f339.name,Z5,func339.trans (l7 some Y1)⟩
 f17:=⟨Tryz.f340.name,Z5,func340.trans (l7 some Y1)⟩
 f18:=⟨Tryz.f341.name,Z5,func341.trans (l7 some Y1)⟩
 f19:=func332.trans (l7 some Y1)
 f20:=func311.trans (l7 some Y1)
 f30:=⟨Tryz.f353.name,Z5,func353.trans (l7 some Y1)⟩
 f31:=func348.trans (l7 some Y1)
 f32:=func349.trans (l7 some Y1)
 f33:=⟨Tryz.f354.name,Z5,func354.trans (l7 some Y1)⟩
 f34:=⟨Tryz.f355.name,Z5,func355.trans (l7 some Y1)⟩
 f35:=⟨Tryz.f356.name,Z5,func356.trans (l7 some Y1)⟩
 f40:=⟨Tryz.f358.name,Z5,func358.trans (l7 some Y1)⟩
 t0:=underlying0
 a0:=Tryz.isAgg0
 z0:=Tryz.sizeOf0
 v0:=Tryz.zeroValue0
 t3:=underlying3
 a3:=Tryz.isAgg3
 z3:=Tryz.sizeOf3
 v3:=Tryz.zeroValue3
 t4:=underlying4
 a4:=Tryz.isAgg4
 z4:=Tryz.sizeOf4
 v4:=Tryz.zeroValue4
 t5:=underlying5
 a5:=Tryz.isAgg5
 z5:=Tryz.sizeOf5
 v5:=Tryz.zeroValue5
 t9:=underlying9
 a9:=Tryz.isAgg9
 z9:=Tryz.sizeOf9
 v9:=Tryz.zeroValue9
 t22:=underlying31
 a22:=Tryz.isAgg31
 z22:=Tryz.sizeOf31
 v22:=Tryz.zeroValue31
 t23:=underlying31
 a23:=Tryz.isAgg31
 z23:=Tryz.sizeOf31
 v23:=Tryz.zeroValue31
 t25:=underlying3
 a25:=Tryz.isAgg3
 z25:=Tryz.sizeOf3
 v25:=Tryz.zeroValue3
 t32:=underlying314
 a32:=Tryz.isAgg314
 z32:=Tryz.sizeOf314
 v32:=Tryz.zeroValue314
 t35:=underlying404
 a35:=Tryz.isAgg404
 z35:=Tryz.sizeOf404
 v35:=Tryz.zeroValue404
 t36:=underlying405
 a36:=Tryz.isAgg405
 z36:=Tryz.sizeOf405
 v36:=Tryz.zeroValue405
 t41:=underlying265
 a41:=Tryz.isAgg265
 z41:=Tryz.sizeOf265
 v41:=Tryz.zeroValue265
 t44:=underlying358
 a44:=Tryz.isAgg358
 z44:=Tryz.sizeOf358
 v44:=Tryz.zeroValue358
 t46:=underlying338
 a46:=Tryz.isAgg338
 z46:=Tryz.sizeOf338
 v46:=Tryz.zeroValue338
 t53:=underlying418
 a53:=Tryz.isAgg418
 z53:=Tryz.sizeOf418
 v53:=Tryz.zeroValue418
 t57:=underlying422
 a57:=Tryz.isAgg422
 z57:=Tryz.sizeOf422
 v57:=Tryz.zeroValue422
 t63:=underlying432
 a63:=Tryz.isAgg432
 z63:=Tryz.sizeOf432
 v63:=Tryz.zeroValue432
 t64:=underlying433
 a64:=Tryz.isAgg433
 z64:=Tryz.sizeOf433
 v64:=Tryz.zeroValue433 }
