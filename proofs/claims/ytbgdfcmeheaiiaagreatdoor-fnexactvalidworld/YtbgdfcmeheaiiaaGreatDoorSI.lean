import Derived.Test.YtbgdfcmeheaiiaaGreatDoorA4
import Derived.Deep.RegionHeld3
import Derived.Maps.OwnSet
import Derived.Maps.Ext
import Derived.Sort.KeysCollected
import Derived.Lib.SlKeysI
import Derived.Lib.SlMapMerge
import Derived.Shelf.SlIter.Nil
import Derived.Shelf.SlIterI.Nil
import Derived.Shelf.SortM.Plain
import Derived.Shelf.SortM.SortNone
import Derived.Ground.GgzProg
import Derived.Ground.SlgmProg
set_option linter.unusedVariables false
set_option linter.unusedSimpArgs false
namespace Go.Proofs.YtbgdfcmeheaiiaaGreatDoor
variable{P:Program}{ops:Array Oper}{Q:Exit->Act->World->Prop}{S:World->Prop}{a:Act}{w:World}{md:Region.Mode}{fuel i:Nat}{listed:Array Bool}{b:Oper}{v:Value}{d:Option Nat}{op:Op}{ty:TypeId}{p:String}{af:Array Edge}{g:Option (Nat×Bool)}
theorem qq:(∀(a:Act)(d:Nat)(v:Value),a.put (some d) v={ a with tmps:=a.tmps.setIfInBounds d v })/\(∀(a:Act)(v:Value),a.put none v=a)/\(∀{α:Type}(l:List α)(i:Nat)(a:α),l.toArray.setIfInBounds i a=(l.set i a).toArray)/\(∀{α:Type}(x:α)(l:List α)(a:α),(x::l).set 0 a=a::l)/\∀{α:Type}(x:α)(l:List α)(i:Nat)(a:α),(x::l).set (i+1) a=x::l.set i a:=⟨λ_ _ _=>rfl,λ_ _=>rfl,λ_ _ _=>ES ..,λ_ _ _=>rfl,λ_ _ _ _=>rfl⟩
theorem FO{V:World}{c:Nat}(C:Go.RowKit.Hid (∀u,Go.RowKit.Below V.heap.size V u->S u))(b:Go.RowKit.Below V.heap.size V w.drew)(hm:P.follows .mixedOrders=true)(h:S w.drew->wpAnyH P .any ops Q S ops.size (Array.replicate ops.size false) a w.drew):(Code.region c ops true).wp P Q a w:=wp_region_held_drew hm (C.out _ b) h
theorem rd{o:Oper}(ho:ops[i]?=some o)(hr:Region.ready md ops listed=[i])(h:∀b:Act->World->Prop,Shut (∀a w,S w->(S w->wpAnyH P md ops Q S fuel (listed.setIfInBounds i true) a w)->b a w)->if Region.wanted o (yielded ops a.tmps)=true then Oper.wp P o a w b Q else b (a.put o.dst undef) w):wpAnyH P md ops Q S (fuel+1) listed a w:=wpAnyH_ready hr O4 (AllReadyH.cons ho h AllReadyH.nil)
theorem tk(e:ops[i]?=some b)(d:(Region.noSelect ops&&Region.free md ops listed i&&(Region.ready md ops listed).contains i)=true)(hw:Region.wanted b (yielded ops a.tmps)=true)(hv:∀u,S u->(execOp a.eval b).run P u=.ok (.value v) u)(f:S w)(h:wpAnyH P md ops Q S fuel (listed.setIfInBounds i true) (a.put b.dst v) w)(hQ:∀c a w,Q (.panic c) (a.put b.dst v) w->Q (.panic c) a w:=by exact λ_ _ _ h=>h):wpAnyH P md ops Q S (fuel+1) listed a w:=by
 simp only[X_]at d;exact wpAnyH_take e d.1.1 d.1.2 d.2 hQ (.inl ⟨hw,hv⟩) f h
theorem tu(e:ops[i]?=some b)(d:(Region.noSelect ops&&Region.free md ops listed i&&(Region.ready md ops listed).contains i)=true)(hw:Region.wanted b (yielded ops a.tmps)=false)(f:S w)(h:wpAnyH P md ops Q S fuel (listed.setIfInBounds i true) (a.put b.dst undef) w)(hQ:∀c a w,Q (.panic c) (a.put b.dst undef) w->Q (.panic c) a w:=by exact λ_ _ _ h=>h):wpAnyH P md ops Q S (fuel+1) listed a w:=by
 simp only[X_]at d;exact wpAnyH_take e d.1.1 d.1.2 d.2 hQ (.inr ⟨hw,rfl⟩) f h
theorem tq(i:Nat)(f:S w)(h:wpAnyH P md ops Q S fuel (listed.setIfInBounds i true) (a.put d v) w)(b:ops[i]?=some ⟨d,op,ty,p,af,g⟩:=by exact rfl)(e:(Region.noSelect ops&&Region.free md ops listed i&&(Region.ready md ops listed).contains i)=true:=by kernel_rfl)(hw:Region.wanted ⟨d,op,ty,p,af,g⟩ (yielded ops a.tmps)=true:=by exact rfl)(hv:∀u,S u->(execOp a.eval ⟨d,op,ty,p,af,g⟩).run P u=.ok (.value v) u:=by intro wq hSw;(try dsimp only at hSw);go_simp;try with_reducible rfl)(hQ:∀c a w,Q (.panic c) (a.put d v) w->Q (.panic c) a w:=by first|exact λ_ _ _ h=>h|exact λ_ _ _ h=>hQ _ _ _ _ _ h):wpAnyH P md ops Q S (fuel+1) listed a w:=tk b e hw hv f h hQ
theorem uq(i:Nat)(f:S w)(h:wpAnyH P md ops Q S fuel (listed.setIfInBounds i true) (a.put d undef) w)(b:ops[i]?=some ⟨d,op,ty,p,af,g⟩:=by exact rfl)(e:(Region.noSelect ops&&Region.free md ops listed i&&(Region.ready md ops listed).contains i)=true:=by kernel_rfl)(hw:Region.wanted ⟨d,op,ty,p,af,g⟩ (yielded ops a.tmps)=false:=by exact rfl)(hQ:∀c a w,Q (.panic c) (a.put d undef) w->Q (.panic c) a w:=by first|exact λ_ _ _ h=>h|exact λ_ _ _ h=>hQ _ _ _ _ _ h):wpAnyH P md ops Q S (fuel+1) listed a w:=tu b e hw f h hQ
section
variable{P:Program}{ops:Array Oper}{md:Region.Mode}{v:Value}{fuel:Nat}{listed:Array Bool}{a:Act}{w:World}{d:Option Nat}{op:Op}{ty:TypeId}{p:String}{af:Array Edge}
theorem U8{Q:Exit->Act->World->Prop}{S:World->Prop}{g:Option (Nat×Bool)}{a1:Act}(i:Nat)(h:wpAnyH P md ops Q S fuel (listed.setIfInBounds i true) a1 w)(f:S w:=by assumption)(b:ops[i]?=some ⟨d,op,ty,p,af,g⟩:=by exact rfl)(e:(Region.noSelect ops&&Region.free md ops listed i&&(Region.ready md ops listed).contains i)=true:=by kernel_rfl)(hw:Region.wanted ⟨d,op,ty,p,af,g⟩ (yielded ops a.tmps)=true:=by exact rfl)(hv:∀u,S u->(execOp a.eval ⟨d,op,ty,p,af,g⟩).run P u=.ok (.value v) u:=by intro wq hSw;(try dsimp only at hSw);go_simp;try with_reducible rfl)(hQ:∀c a w,Q (.panic c) (a.put d v) w->Q (.panic c) a w:=by first|exact λ_ _ _ h=>h|exact λ_ _ _ h=>hQ _ _ _ _ _ h)(j:a.put d v=a1:=by first|(simp only[qq];rfl)|rfl):wpAnyH P md ops Q S (fuel+1) listed a w:=tq i f (j▸h) b e hw hv hQ
theorem uqq{Q:Exit->Act->World->Prop}{S:World->Prop}{g:Option (Nat×Bool)}{a1:Act}(i:Nat)(h:wpAnyH P md ops Q S fuel (listed.setIfInBounds i true) a1 w)(f:S w:=by assumption)(b:ops[i]?=some ⟨d,op,ty,p,af,g⟩:=by exact rfl)(e:(Region.noSelect ops&&Region.free md ops listed i&&(Region.ready md ops listed).contains i)=true:=by kernel_rfl)(hw:Region.wanted ⟨d,op,ty,p,af,g⟩ (yielded ops a.tmps)=false:=by exact rfl)(hQ:∀c a w,Q (.panic c) (a.put d undef) w->Q (.panic c) a w:=by first|exact λ_ _ _ h=>h|exact λ_ _ _ h=>hQ _ _ _ _ _ h)(j:a.put d undef=a1:=by first|(simp only[qq];rfl)|rfl):wpAnyH P md ops Q S (fuel+1) listed a w:=uq i f (j▸h) b e hw hQ
theorem X8{S:World->Prop}{X K:Act->World->Prop}{a1:Act}(c:Shut (∀a w,S w->(S w->X a w)->K a w))(b:S w)(h:S w->X a1 w)(d:a=a1:=by first|(simp only[qq];rfl)|rfl):K a w:=c.out _ _ b (d▸h)
theorem rF{S:World->Prop}{X K:Act->World->Prop}{a1:Act}(c:Shut (∀a w,S w->(S w->X a w)->K a w))(h:S w->X a1 w)(b:S w:=by (try dsimp only);go_keep)(d:a=a1:=by first|(simp only[qq];rfl)|rfl):K a w:=c.out _ _ b (d▸h)
theorem kpk{S:World->Prop}{X K:Act->World->Prop}(c:Shut (∀a w,S w->(S w->X a w)->K a w))(h:S w->X a w)(b:S w:=by (try dsimp only);go_keep):K a w:=c.out _ _ b h
theorem wdn{Q:Exit->Act->World->Prop}{S:World->Prop}(h:Q .normal a w)(hr:Region.ready md ops listed=[]:=by kernel_rfl):wpAnyH P md ops Q S fuel listed a w:=wpAnyH_done hr h _
end
theorem rq{P:Program}{ops:Array Oper}{Q:Exit->Act->World->Prop}{md:Region.Mode}{S:World->Prop}{fuel:Nat}{listed:Array Bool}{a:Act}{w:World}{d:Option Nat}{op:Op}{ty:TypeId}{p:String}{af:Array Edge}{g:Option (Nat×Bool)}(i:Nat)(h:∀b:Act->World->Prop,Shut (∀a w,S w->(S w->wpAnyH P md ops Q S fuel (listed.setIfInBounds i true) a w)->b a w)->if Region.wanted ⟨d,op,ty,p,af,g⟩ (yielded ops a.tmps)=true then Oper.wp P ⟨d,op,ty,p,af,g⟩ a w b Q else b (a.put d undef) w)(ho:ops[i]?=some ⟨d,op,ty,p,af,g⟩:=by exact rfl)(hr:Region.ready md ops listed=[i]:=by kernel_rfl):wpAnyH P md ops Q S (fuel+1) listed a w:=rd ho hr h
def nx(ls:List Bool):Nat->List Oper->Option Nat
 | _,[]=>none
 | k,o::r=>cond (!(ls.getD k true)&&o.after.toList.all λe=>ls.getD e.on false) (some k) (nx ls (k+1) r)
theorem sq{P:Program}{ops:Array Oper}{Q:Exit->Act->World->Prop}{md:Region.Mode}{S:World->Prop}{v:Value}{fuel:Nat}{listed:Array Bool}{a a1:Act}{w:World}{d:Option Nat}{op:Op}{ty:TypeId}{p:String}{af:Array Edge}{g:Option (Nat×Bool)}{i:Nat}(h:wpAnyH P md ops Q S fuel (listed.setIfInBounds i true) a1 w)(j:S w:=by assumption)(hr:nx listed.toList 0 ops.toList=some i:=by exact rfl)(f:ops[i]?=some ⟨d,op,ty,p,af,g⟩:=by exact rfl)(b:(Region.noSelect ops&&Region.free md ops listed i&&(Region.ready md ops listed).contains i)=true:=by kernel_rfl)(hw:(Region.wanted ⟨d,op,ty,p,af,g⟩ (yielded ops a.tmps)=true/\∀u,S u->(execOp a.eval ⟨d,op,ty,p,af,g⟩).run P u=.ok (.value v) u)\/(Region.wanted ⟨d,op,ty,p,af,g⟩ (yielded ops a.tmps)=false/\v=undef):=by first|exact .inr ⟨rfl,rfl⟩|(refine .inl ⟨rfl,?_⟩;intro wq hSw;(try dsimp only at hSw);go_simp;try with_reducible rfl))(hQ:∀c a w,Q (.panic c) (a.put d v) w->Q (.panic c) a w:=by first|exact λ_ _ _ h=>h|exact λ_ _ _ h=>hQ _ _ _ _ _ h)(k:a.put d v=a1:=by first|(simp only[qq];rfl)|rfl):wpAnyH P md ops Q S (fuel+1) listed a w:=by
 simp only[X_]at b;refine wpAnyH_take f b.1.1 b.1.2 b.2 hQ (hw.imp id λ⟨h,e⟩=>⟨h,e⟩) j (k▸h)
end Go.Proofs.YtbgdfcmeheaiiaaGreatDoor
namespace Go.Proofs.YtbgdfcmeheaiiaaGreatDoor
open Go.RowKit Go.Maps
variable{a b k:BY}{l:List (ByteArray×Value)}
def Oa(v:Value):Option (DataW Value×List MemPlace):=some (.held v,[])
def kS(s:BY):Lit:=.string s.data.toList
def eS(p:BY×Value):Lit×DataW Value:=(kS p.1,.held p.2)
def mapD(l:List (ByteArray×Value)):DataW Value:=.map (l.map eS)
def Dq(a b:BY):Bool:=bytesBefore a.data.toList b.data.toList
def Gg(x:BY×Value):List (ByteArray×Value)->List (ByteArray×Value)
 | []=>[x]
 | y::r=>if Dq x.1 y.1 then x::y::r else y::Gg x r
def Asc(l:List (ByteArray×Value)):Prop:=l.Pairwise λp q=>Dq p.1 q.1=true
def Z_(l:List (ByteArray×Value))(k:BY):Option Value:=(l.find? λp=>decide (p.1=k)).map (·.2)
theorem TK(h:a.data.toList=b.data.toList):a=b:=by
 apply mg;exact Xk.1 h
theorem uy(a b:BY):(kS a).sameKey (kS b)=decide (a=b):=by
 show(a.data.toList==b.data.toList)=decide (a=b);by_cases h:a=b
 ·simp[h]
 rw[y9 h];exact K_.2 (λe=>h (TK e))
theorem JL(l:List (ByteArray×Value))(k:BY)(z:DataW Value):(mapD l).atKey (kS k) z=match Z_ l k with|some v=>.held v|none=>z:=by
 unfold mapD DataW.atKey Z_;simp only[List.find?_map];have e:((λp:Lit×DataW Value=>p.1.sameKey (kS k))∘eS)=λp=>decide (p.1=k):=funext λp=>uy p.1 k;rw[e];cases List.find? (λp:BY×Value=>decide (p.1=k)) l<;>rfl
theorem uQ(l:List (ByteArray×Value))(k:BY):has (mapD l) (kS k)=(Z_ l k).isSome:=by
 show(l.map eS).any (λp=>p.1.sameKey (kS k))=_;rw[List.any_map];have e:((λp:Lit×DataW Value=>p.1.sameKey (kS k))∘eS)=λp=>decide (p.1=k):=funext λp=>uy p.1 k;rw[e];unfold Z_;rw[Option.isSome_map,NI];simp
theorem Ec(l:List (ByteArray×Value)):size (mapD l)=l.length:=by
 show(l.map eS).length=_;simp
theorem MC(l:List (ByteArray×Value)):strKeys (mapD l)=l.map λp=>p.1.data.toList:=by
 show(l.map eS).map _=_;simp[eS,kS,strOf,Function.comp_def]
theorem tK(x:BY×Value)(l:List (ByteArray×Value)):(Gg x l).map eS=DataW.insert (eS x) (l.map eS):=by
 induction l with
 | nil=>rfl
 | cons y r ih=>
  unfold Gg;show _=if (kS x.1).before (kS y.1)=true then _ else _;show List.map eS (if bytesBefore x.1.data.toList y.1.data.toList=true then _ else _)=if bytesBefore x.1.data.toList y.1.data.toList=true then _ else _;split
  ·rfl
  simp[ih]
theorem Ea:Z_ l k=none↔∀p∈l,p.1≠k:=by
 unfold Z_;simp
theorem uz(v:Value)(h:Z_ l k=none):(mapD l).put (kS k) (.held v)=mapD (Gg (k,v) l):=by
 show DataW.map (DataW.insert (eS (k,v)) ((l.map eS).filter λp=>!p.1.sameKey (kS k)))=DataW.map ((Gg (k,v) l).map eS);rw[tK]
 congr 2
 rw[zJ];intro p b;obtain⟨q,a,rfl⟩:=Zm.1 b;show(!(kS q.1).sameKey (kS k))=true;rw[uy,y9 (Ea.1 h q a)];rfl
theorem Md(x:BY×Value)(l:List (ByteArray×Value)):(Gg x l).Perm (x::l):=by
 induction l with
 | nil=>exact vF _
 | cons y r ih=>
  unfold Gg;split
  ·exact vF _
  exact(ih.cons y).trans (List.Perm.swap x y r)
theorem Jm(a:BY):Dq a a=false:=WideAt.bytes_irrefl _
theorem Zy{c:BY}(h:Dq a b=true)(d:Dq b c=true):Dq a c=true:=WideShapes.bytes_trans _ _ _ h d
theorem nK(h:a≠b):Dq a b=true\/Dq b a=true:=WideAt.bytes_total _ _ (λe=>h (TK e))
theorem Rt{x:BY×Value}(h:Asc l)(hx:∀p∈l,p.1≠x.1):Asc (Gg x l):=by
 induction l with
 | nil=>exact List.pairwise_singleton _ _
 | cons y r ih=>
  have c:=Dy.1 h;unfold Gg;split
  ·rename_i b;exact Dy.2 ⟨λp a=>by
    rcases je.1 a with rfl|a
    ·exact b
    exact Zy b (c.1 p a),h⟩
  rename_i b;have d:=(nK (hx y (Nq ..))).elim id (λe=>absurd e b);refine Dy.2 ⟨λp a=>?_,ih c.2 (λp a=>hx p (vg _ a))⟩;rcases je.1 ((Md x r).mem_iff.1 a)with rfl|a
  ·exact d
  exact c.1 p a
theorem rZ{c:List (ByteArray×Value)}(h:Asc l)(e:Asc c)(d:l.Perm c):l=c:=by
 refine List.Perm.eq_of_pairwise (le:=λ(p q:BY×Value)=>Dq p.1 q.1=true) (λa b _ _ h1 h2=>?_) h e d;have:=Zy h1 h2;rw[Jm]at this;cases this
theorem Ez{v:Value}(h:Z_ l k=some v):(k,v)∈l:=by
 unfold Z_ at h;obtain⟨p,a,rfl⟩:=Wy.1 h;have h1:=yS a;have h2:=bJ a;simp at h2;rw[<- h2];exact h1
theorem Yn(h:Asc l){k:BY}{v:Value}(hm:(k,v)∈l):Z_ l k=some v:=by
 induction l with
 | nil=>cases hm
 | cons y r ih=>
  have a:=Dy.1 h;rcases je.1 hm with rfl|hm
  ·simp[Z_]
  have b:y.1≠k:=λe=>by
   have:=a.1 _ hm;rw[e]at this;simp only[Jm]at this;cases this
  have hr:=ih a.2 hm;unfold Z_ at hr ⊢;rw[List.find?_cons_of_neg (by simpa using b)];exact hr
theorem nJ(f l:List (ByteArray×Value))(hf:Asc f)(hl:Asc l)(hd:∀p∈f,Z_ l p.1=none):Asc (f.foldl (λa p=>Gg p a) l)/\(f.foldl (λa p=>Gg p a) l).Perm (f++l)/\Lib.mergeD (mapD l) (mapD f)=mapD (f.foldl (λa p=>Gg p a) l):=by
 show _/\_/\(f.map eS).foldl (λD p=>D.put p.1 p.2) (mapD l)=_
 induction f generalizing l with
 | nil=>exact⟨hl,vF _,rfl⟩
 | cons y r ih=>
  have g:=Dy.1 hf;have c:=hd y (Nq ..);obtain⟨j,i,h⟩:=ih (Gg y l) g.2 (Rt hl (Ea.1 c)) (λp d=>Ea.2 (λq b=>by
   rcases je.1 ((Md y l).mem_iff.1 b)with rfl|b
   ·intro e;have:=g.1 p d;rw[e,Jm]at this;cases this
   exact Ea.1 (hd p (vg _ d)) q b))
  refine⟨j,?_,?_⟩
  ·show(List.foldl (λa p=>Gg p a) (Gg y l) r).Perm (y::(r++l));exact i.trans (((Md y l).append_left r).trans List.perm_middle)
  show(r.map eS).foldl (λD p=>D.put p.1 p.2) ((mapD l).put (kS y.1) (.held y.2))=_;rw[uz y.2 c];exact h
theorem dH:∀(a b:List UInt8),bytesBefore a b=true->a<=b
 | [],_,_=>List.nil_le _
 | _::_,[],h=>by simp[bytesBefore]at h
 | x::r,y::s,h=>by
  simp[bytesBefore]at h;rcases h with h|⟨rfl,h⟩
  ·exact List.le_of_lt (List.Lex.rel h)
  exact List.cons_le_cons_iff.2 (.inr ⟨rfl,dH r s h⟩)
theorem MH(h:Asc l){ss:List (List UInt8)}(a:ss.Perm (strKeys (mapD l))):ss.mergeSort (λx y=>decide (x<=y))=l.map λp=>p.1.data.toList:=by
 rw[MC]at a;have e:=mergeSort_of_perm a;show ss.mergeSort leB=_;rw[e];apply UR;refine List.pairwise_map.2 (h.imp λ{p q} hb=>?_);simpa[leB]using dH _ _ hb
def iE(i:Nat)(v:Value):Lit×DataW Value:=(.int .i64 i,.held v)
def intD(vs:List Value):DataW Value:=.map ((List.range vs.length).map λi=>iE i (vs.getD i undef))
theorem Bl(vs:List Value):size (intD vs)=vs.length:=by
 show((List.range vs.length).map λi=>iE i (vs.getD i undef)).length=_;simp
theorem dD(vs:List Value):intKeys (intD vs)=(List.range vs.length).map λi:Nat=>(i:Int):=by
 show((List.range vs.length).map λi=>iE i (vs.getD i undef)).map _=_;simp[iE,Go.intOf,Function.comp_def]
theorem sW(vs:List Value)(k:Nat)(z:DataW Value):(intD vs).atKey (.int .i64 k) z=if k<vs.length then .held (vs.getD k undef) else z:=by
 unfold intD DataW.atKey;simp only[List.find?_map];have e:((λp:Lit×DataW Value=>p.1.sameKey (.int .i64 k))∘λi=>iE i (vs.getD i undef))=λi=>decide (i=k):=funext λi=>by simp[iE,Lit.sameKey];omega
 rw[e];by_cases h:k<vs.length
 ·rw[D8 h];have:List.find? (λi=>decide (i=k)) (List.range vs.length)=some k:=by
   cases hq:List.find? (λi=>decide (i=k)) (List.range vs.length) with
   | none=>exact absurd (Hy.1 hq k (yt.2 h)) O4
   | some j=>have:=bJ hq;simp at this;rw[this]
  rw[this];rfl
 rw[Y7 h];have:List.find? (λi=>decide (i=k)) (List.range vs.length)=none:=Hy.2 (λj a=>by have:=yt.1 a;simp;omega);rw[this];rfl
theorem wQ(x:Lit×DataW Value)(l:List (Lit×DataW Value))(h:∀p∈l,x.1.before p.1=false):DataW.insert x l=l++[x]:=by
 induction l with
 | nil=>rfl
 | cons y r ih=>
  unfold DataW.insert;rw[h y (Nq ..),ih (λp a=>h p (vg _ a))];simp
theorem AU(vs:List Value)(v:Value):(intD vs).put (.int .i64 vs.length) (.held v)=intD (vs++[v]):=by
 show DataW.map (DataW.insert (iE vs.length v) (((List.range vs.length).map λi=>iE i (vs.getD i undef)).filter λp=>!p.1.sameKey (.int .i64 vs.length)))=DataW.map ((List.range (vs++[v]).length).map λi=>iE i ((vs++[v]).getD i undef))
 congr 1
 rw[zJ.2,wQ]
 ·rw[L9,Aj,yD,Gl]
  congr 1
  ·apply Zu;intro i a;have:=yt.1 a;unfold iE;simp[List.getD,R_ this]
  simp[iE,List.getD]
 ·intro p b;obtain⟨i,a,rfl⟩:=Zm.1 b;have:=yt.1 a;show decide ((vs.length:Int)<(i:Int))=false;simp;omega
 intro p b;obtain⟨i,a,rfl⟩:=Zm.1 b;have:=yt.1 a;simp[iE,Lit.sameKey];omega
theorem RG{vs:List Value}{ss:List Int}(a:ss.Perm (intKeys (intD vs))):ss.mergeSort (λx y=>decide (x<=y))=(List.range vs.length).map λi:Nat=>(i:Int):=by
 rw[dD]at a;have e:=mergeSort_of_perm_i a;show ss.mergeSort leI=_;rw[e];apply UR;refine List.pairwise_map.2 (List.pairwise_lt_range.imp λ{p q} hb=>?_);simp[leI];omega
end Go.Proofs.YtbgdfcmeheaiiaaGreatDoor
namespace Go.Proofs
open Go.Shelf
def Tryz.keysA_ren:Go.Shelf.Ren:=⟨λ| 7=>246|10=>300|n=>n, λ| 23=>272|26=>9|3=>280|28=>367|0=>0|27=>366|33=>86|4=>4|n=>n, λ| n=>n⟩
theorem Tryz.keysA:Go.Proofs.SlLaysZ.n7 prog Tryz.keysA_ren:={
 mixed:=Y0
 f7:=⟨Tryz.f246.name,J6,func246.trans (U6 some Y0)⟩
 f10:=⟨Tryz.f300.name,J6,func300.trans (U6 some Y0)⟩
 t0:=underlying0
 a0:=Tryz.isAgg0
 z0:=Tryz.sizeOf0
 v0:=Tryz.zeroValue0
 t4:=underlying4
 a4:=Tryz.isAgg4
 z4:=Tryz.sizeOf4
 v4:=Tryz.zeroValue4
 t23:=underlying272
 a23:=Tryz.isAgg272
 z23:=Tryz.sizeOf272
 v23:=Tryz.zeroValue272
 t26:=underlying9
 a26:=Tryz.isAgg9
 z26:=Tryz.sizeOf9
 v26:=Tryz.zeroValue9
 t27:=underlying366
 a27:=Tryz.isAgg366
 z27:=Tryz.sizeOf366
 v27:=Tryz.zeroValue366
 t28:=underlying367
 a28:=Tryz.isAgg367
 z28:=Tryz.sizeOf367
 v28:=Tryz.zeroValue367
 t33:=underlying86
 a33:=Tryz.isAgg86
 z33:=Tryz.sizeOf86
 v33:=Tryz.zeroValue86 }
def Tryz.sortedA_ren:Go.Shelf.Ren:=⟨λ| 6=>245|8=>298|9=>299|11=>330|13=>332|12=>331|23=>353|24=>354|14=>344|15=>345|16=>346|17=>347|18=>348|19=>349|20=>350|21=>351|22=>352|25=>369|26=>370|27=>371|28=>372|29=>373|30=>374|31=>384|n=>n, λ| 26=>9|28=>367|24=>22|0=>0|3=>3|37=>374|48=>428|50=>410|4=>4|40=>472|39=>471|45=>308|5=>5|9=>9|51=>486|55=>490|57=>503|58=>504|33=>86|n=>n, λ| n=>n⟩
theorem Tryz.sortedA:Go.Proofs.SlLaysZ.n6 prog Tryz.sortedA_ren:={
 mixed:=Y0
 f6:=⟨Tryz.f245.name,J6,func245.trans (U6 some Y0)⟩
 f8:=⟨Tryz.f298.name,J6,func298.trans (U6 some Y0)⟩
 f11:=⟨Tryz.f330.name,J6,func330.trans (U6 some Y0)⟩
 t0:=underlying0
 a0:=Tryz.isAgg0
 z0:=Tryz.sizeOf0
 v0:=Tryz.zeroValue0
 t24:=underlying22
 a24:=Tryz.isAgg22
 z24:=Tryz.sizeOf22
 v24:=Tryz.zeroValue22
 t26:=underlying9
 a26:=Tryz.isAgg9
 z26:=Tryz.sizeOf9
 v26:=Tryz.zeroValue9
 t28:=underlying367
 a28:=Tryz.isAgg367
 z28:=Tryz.sizeOf367
 v28:=Tryz.zeroValue367
 i26:=by kernel_rfl }
def Tryz.BO:Go.Shelf.Ren:=⟨λ| 6=>299|8=>332|9=>331|19=>353|20=>354|21=>344|22=>345|23=>346|24=>347|25=>348|26=>349|27=>350|28=>351|29=>352|36=>369|31=>370|32=>371|37=>372|38=>373|39=>374|41=>384|n=>n, λ| 27=>22|29=>9|3=>3|32=>374|26=>22|0=>0|44=>428|46=>410|4=>4|36=>472|35=>471|41=>308|5=>5|9=>9|53=>486|57=>490|63=>503|64=>504|n=>n, λ| n=>n⟩
theorem Tryz.sortA:Go.Proofs.SlLaysM.n6 prog Tryz.BO:={
 mixed:=Y0
 f6:=⟨Tryz.f299.name,J6,func299.trans (U6 some Y0)⟩
 f8:=func332.trans (U6 some Y0)
 f9:=⟨Tryz.f331.name,J6,func331.trans (U6 some Y0)⟩
 f19:=func353.trans (U6 some Y0)
 f20:=func354.trans (U6 some Y0)
 f21:=⟨Tryz.f344.name,J6,func344.trans (U6 some Y0)⟩
 f22:=⟨Tryz.f345.name,J6,func345.trans (U6 some Y0)⟩
 f23:=⟨Tryz.f346.name,J6,func346.trans (U6 some Y0)⟩
 f24:=⟨Tryz.f347.name,J6,func347.trans (U6 some Y0)⟩
 f25:=⟨Tryz.f348.name,J6,func348.trans (U6 some Y0)⟩
 f26:=⟨Tryz.f349.name,J6,func349.trans (U6 some Y0)⟩
 f27:=⟨Tryz.f350.name,J6,func350.trans (U6 some Y0)⟩
 f28:=⟨Tryz.f351.name,J6,func351.trans (U6 some Y0)⟩
 f29:=⟨Tryz.f352.name,J6,func352.trans (U6 some Y0)⟩
 f31:=func370.trans (U6 some Y0)
 f32:=func371.trans (U6 some Y0)
 f36:=⟨Tryz.f369.name,J6,func369.trans (U6 some Y0)⟩
 f37:=⟨Tryz.f372.name,J6,func372.trans (U6 some Y0)⟩
 f38:=⟨Tryz.f373.name,J6,func373.trans (U6 some Y0)⟩
 f39:=⟨Tryz.f374.name,J6,func374.trans (U6 some Y0)⟩
 f41:=⟨Tryz.f384.name,J6,func384.trans (U6 some Y0)⟩
 t0:=underlying0
 a0:=Tryz.isAgg0
 z0:=Tryz.sizeOf0
 v0:=Tryz.zeroValue0
 t3:=underlying3
 a3:=Tryz.isAgg3
 z3:=Tryz.sizeOf3
 v3:=Tryz.zeroValue3
 t4:=underlying4
 a4:=Tryz.isAgg4
 z4:=Tryz.sizeOf4
 v4:=Tryz.zeroValue4
 t5:=underlying5
 a5:=Tryz.isAgg5
 z5:=Tryz.sizeOf5
 v5:=Tryz.zeroValue5
 t9:=underlying9
 a9:=Tryz.isAgg9
 z9:=Tryz.sizeOf9
 v9:=Tryz.zeroValue9
 t26:=underlying22
 a26:=Tryz.isAgg22
 z26:=Tryz.sizeOf22
 v26:=Tryz.zeroValue22
 t27:=underlying22
 a27:=Tryz.isAgg22
 z27:=Tryz.sizeOf22
 v27:=Tryz.zeroValue22
 t29:=underlying9
 a29:=Tryz.isAgg9
 z29:=Tryz.sizeOf9
 v29:=Tryz.zeroValue9
 t32:=underlying374
 a32:=Tryz.isAgg374
 z32:=Tryz.sizeOf374
 v32:=Tryz.zeroValue374
 t35:=underlying471
 a35:=Tryz.isAgg471
 z35:=Tryz.sizeOf471
 v35:=Tryz.zeroValue471
 t36:=underlying472
 a36:=Tryz.isAgg472
 z36:=Tryz.sizeOf472
 v36:=Tryz.zeroValue472
 t41:=underlying308
 a41:=Tryz.isAgg308
 z41:=Tryz.sizeOf308
 v41:=Tryz.zeroValue308
 t44:=underlying428
 a44:=Tryz.isAgg428
 z44:=Tryz.sizeOf428
 v44:=Tryz.zeroValue428
 t46:=underlying410
 a46:=Tryz.isAgg410
 z46:=Tryz.sizeOf410
 v46:=Tryz.zeroValue410
 t53:=underlying486
 a53:=Tryz.isAgg486
 z53:=Tryz.sizeOf486
 v53:=Tryz.zeroValue486
 t57:=underlying490
 a57:=Tryz.isAgg490
 z57:=Tryz.sizeOf490
 v57:=Tryz.zeroValue490
 t63:=underlying503
 a63:=Tryz.isAgg503
 z63:=Tryz.sizeOf503
 v63:=Tryz.zeroValue503
 t64:=underlying504
 a64:=Tryz.isAgg504
 z64:=Tryz.sizeOf504
 v64:=Tryz.zeroValue504 }
def Tryz.keysB_ren:Go.Shelf.Ren:=⟨λ| 7=>249|10=>303|n=>n, λ| 23=>273|26=>3|3=>176|28=>371|0=>0|27=>370|33=>115|4=>4|n=>n, λ| n=>n⟩
theorem Tryz.keysB:Go.Proofs.SlLaysZI.n7 prog Tryz.keysB_ren:={
 mixed:=Y0
 f7:=⟨Tryz.f249.name,J6,func249.trans (U6 some Y0)⟩
 f10:=⟨Tryz.f303.name,J6,func303.trans (U6 some Y0)⟩
 t0:=underlying0
 a0:=Tryz.isAgg0
 z0:=Tryz.sizeOf0
 v0:=Tryz.zeroValue0
 t4:=underlying4
 a4:=Tryz.isAgg4
 z4:=Tryz.sizeOf4
 v4:=Tryz.zeroValue4
 t23:=underlying273
 a23:=Tryz.isAgg273
 z23:=Tryz.sizeOf273
 v23:=Tryz.zeroValue273
 t26:=underlying3
 a26:=Tryz.isAgg3
 z26:=Tryz.sizeOf3
 v26:=Tryz.zeroValue3
 t27:=underlying370
 a27:=Tryz.isAgg370
 z27:=Tryz.sizeOf370
 v27:=Tryz.zeroValue370
 t28:=underlying371
 a28:=Tryz.isAgg371
 z28:=Tryz.sizeOf371
 v28:=Tryz.zeroValue371
 t33:=underlying115
 a33:=Tryz.isAgg115
 z33:=Tryz.sizeOf115
 v33:=Tryz.zeroValue115 }
def Tryz.sortedB_ren:Go.Shelf.Ren:=⟨λ| 6=>248|8=>301|9=>302|11=>333|13=>332|12=>334|23=>353|24=>354|14=>355|15=>356|16=>357|17=>358|18=>359|19=>360|20=>361|21=>362|22=>363|25=>375|26=>370|27=>371|28=>376|29=>377|30=>378|31=>385|n=>n, λ| 26=>3|28=>371|24=>31|0=>0|3=>3|37=>374|48=>428|50=>410|4=>4|40=>472|39=>471|45=>308|5=>5|9=>9|51=>486|55=>490|57=>503|58=>504|33=>115|n=>n, λ| n=>n⟩
theorem Tryz.sortedB:Go.Proofs.SlLaysZI.n6 prog Tryz.sortedB_ren:={
 mixed:=Y0
 f6:=⟨Tryz.f248.name,J6,func248.trans (U6 some Y0)⟩
 f8:=⟨Tryz.f301.name,J6,func301.trans (U6 some Y0)⟩
 f11:=⟨Tryz.f333.name,J6,func333.trans (U6 some Y0)⟩
 t0:=underlying0
 a0:=Tryz.isAgg0
 z0:=Tryz.sizeOf0
 v0:=Tryz.zeroValue0
 t24:=underlying31
 a24:=Tryz.isAgg31
 z24:=Tryz.sizeOf31
 v24:=Tryz.zeroValue31
 t26:=underlying3
 a26:=Tryz.isAgg3
 z26:=Tryz.sizeOf3
 v26:=Tryz.zeroValue3
 t28:=underlying371
 a28:=Tryz.isAgg371
 z28:=Tryz.sizeOf371
 v28:=Tryz.zeroValue371
 i26:=by kernel_rfl }
def Tryz.xN:Go.Shelf.Ren:=⟨λ| 5=>302|8=>332|7=>334|19=>353|20=>354|10=>355|11=>356|12=>357|13=>358|14=>359|15=>360|16=>361|17=>362|18=>363|30=>375|31=>370|32=>371|33=>376|34=>377|35=>378|40=>385|n=>n, λ| 23=>31|25=>3|3=>3|32=>374|22=>31|0=>0|44=>428|46=>410|4=>4|36=>472|35=>471|41=>308|5=>5|9=>9|53=>486|57=>490|63=>503|64=>504|n=>n, λ| n=>n⟩
theorem Tryz.sortB:Go.Proofs.SlLaysM.n5 prog Tryz.xN:={
 mixed:=Y0
 f5:=⟨Tryz.f302.name,J6,func302.trans (U6 some Y0)⟩
 f7:=⟨Tryz.f334.name,J6,func334.trans (U6 some Y0)⟩
 f8:=func332.trans (U6 some Y0)
 f10:=⟨Tryz.f355.name,J6,func355.trans (U6 some Y0)⟩
 f11:=⟨Tryz.f356.name,J6,func356.trans (U6 some Y0)⟩
 f12:=⟨Tryz.f357.name,J6,func357.trans (U6 some Y0)⟩
 f13:=⟨Tryz.f358.name,J6,func358.trans (U6 some Y0)⟩
 f14:=⟨Tryz.f359.name,J6,func359.trans (U6 some Y0)⟩
 f15:=⟨Tryz.f360.name,J6,func360.trans (U6 some Y0)⟩
 f16:=⟨Tryz.f361.name,J6,func361.trans (U6 some Y0)⟩
 f17:=⟨Tryz.f362.name,J6,func362.trans (U6 some Y0)⟩
 f18:=⟨Tryz.f363.name,J6,func363.trans (U6 some Y0)⟩
 f19:=func353.trans (U6 some Y0)
 f20:=func354.trans (U6 some Y0)
 f30:=⟨Tryz.f375.name,J6,func375.trans (U6 some Y0)⟩
 f31:=func370.trans (U6 some Y0)
 f32:=func371.trans (U6 some Y0)
 f33:=⟨Tryz.f376.name,J6,func376.trans (U6 some Y0)⟩
 f34:=⟨Tryz.f377.name,J6,func377.trans (U6 some Y0)⟩
 f35:=⟨Tryz.f378.name,J6,func378.trans (U6 some Y0)⟩
 f40:=⟨Tryz.f385.name,J6,func385.trans (U6 some Y0)⟩
 t0:=underlying0
 a0:=Tryz.isAgg0
 z0:=Tryz.sizeOf0
 v0:=Tryz.zeroValue0
 t3:=underlying3
 a3:=Tryz.isAgg3
 z3:=Tryz.sizeOf3
 v3:=Tryz.zeroValue3
 t4:=underlying4
 a4:=Tryz.isAgg4
 z4:=Tryz.sizeOf4
 v4:=Tryz.zeroValue4
 t5:=underlying5
 a5:=Tryz.isAgg5
 z5:=Tryz.sizeOf5
 v5:=Tryz.zeroValue5
 t9:=underlying9
 a9:=Tryz.isAgg9
 z9:=Tryz.sizeOf9
 v9:=Tryz.zeroValue9
 t22:=underlying31
 a22:=Tryz.isAgg31
 z22:=Tryz.sizeOf31
 v22:=Tryz.zeroValue31
 t23:=underlying31
 a23:=Tryz.isAgg31
 z23:=Tryz.sizeOf31
 v23:=Tryz.zeroValue31
 t25:=underlying3
 a25:=Tryz.isAgg3
 z25:=Tryz.sizeOf3
 v25:=Tryz.zeroValue3
 t32:=underlying374
 a32:=Tryz.isAgg374
 z32:=Tryz.sizeOf374
 v32:=Tryz.zeroValue374
 t35:=underlying471
 a35:=Tryz.isAgg471
 z35:=Tryz.sizeOf471
 v35:=Tryz.zeroValue471
 t36:=underlying472
 a36:=Tryz.isAgg472
 z36:=Tryz.sizeOf472
 v36:=Tryz.zeroValue472
 t41:=underlying308
 a41:=Tryz.isAgg308
 z41:=Tryz.sizeOf308
 v41:=Tryz.zeroValue308
 t44:=underlying428
 a44:=Tryz.isAgg428
 z44:=Tryz.sizeOf428
 v44:=Tryz.zeroValue428
 t46:=underlying410
 a46:=Tryz.isAgg410
 z46:=Tryz.sizeOf410
 v46:=Tryz.zeroValue410
 t53:=underlying486
 a53:=Tryz.isAgg486
 z53:=Tryz.sizeOf486
 v53:=Tryz.zeroValue486
 t57:=underlying490
 a57:=Tryz.isAgg490
 z57:=Tryz.sizeOf490
 v57:=Tryz.zeroValue490
 t63:=underlying503
 a63:=Tryz.isAgg503
 z63:=Tryz.sizeOf503
 v63:=Tryz.zeroValue503
 t64:=underlying504
 a64:=Tryz.isAgg504
 z64:=Tryz.sizeOf504
 v64:=Tryz.zeroValue504 }
