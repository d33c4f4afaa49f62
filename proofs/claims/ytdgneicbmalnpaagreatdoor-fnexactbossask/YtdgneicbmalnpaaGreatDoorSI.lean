import Derived.Test.YtdgneicbmalnpaaGreatDoorSH
import Derived.Deep.RegionHeld3
import Derived.Lib.SlMapMerge
import Derived.Shelf.SlIterI.Nil
import Derived.Shelf.SortM.Plain
import Derived.Shelf.SortM.SortNone
set_option linter.all false
theorem Go.Shut.o{p:Prop}(h:Go.Shut p):p:=h
namespace Go.Proofs.YtdgneicbmalnpaaGreatDoor
variable{P:Program}{ops:Array Oper}{Q:Exit->Act->World->Prop}{S:World->Prop}{a:Act}{w:World}{md:Region.Mode}{fuel i:Nat}{listed:Array Bool}{b:Oper}{v:Value}{d:Option Nat}{op:Op}{ty:TypeId}{p:String}{af:Array Edge}{g:Option (Nat×Bool)}
theorem qq:(∀(a:Act)(d:Nat)(v:Value),a.put (some d) v={ a with tmps:=a.tmps.setIfInBounds d v })/\(∀(a:Act)(v:Value),a.put none v=a)/\(∀{α:Type}(l:List α)(i:Nat)(a:α),l.toArray.setIfInBounds i a=(l.set i a).toArray)/\(∀{α:Type}(x:α)(l:List α)(a:α),(x::l).set 0 a=a::l)/\∀{α:Type}(x:α)(l:List α)(i:Nat)(a:α),(x::l).set (i+1) a=x::l.set i a:=⟨λ_ _ _=>rfl,λ_ _=>rfl,λ_ _ _=>qQ ..,λ_ _ _=>rfl,λ_ _ _ _=>rfl⟩
theorem mG{V:World}{c:Nat}(C:Go.RowKit.Hid (∀u,Go.RowKit.Below V.heap.size V u->S u))(b:Go.RowKit.Below V.heap.size V w.drew)(hm:P.follows .mixedOrders=true)(h:S w.drew->wpAnyH P .any ops Q S ops.size (Array.replicate ops.size false) a w.drew):(Code.region c ops true).wp P Q a w:=wp_region_held_drew hm (C.o _ b) h
theorem rd{o:Oper}(ho:ops[i]?=some o)(hr:Region.ready md ops listed=[i])(h:∀b:Act->World->Prop,Shut (∀a w,S w->(S w->wpAnyH P md ops Q S fuel (listed.setIfInBounds i true) a w)->b a w)->if Region.wanted o (yielded ops a.tmps)=true then Oper.wp P o a w b Q else b (a.put o.dst undef) w):wpAnyH P md ops Q S (fuel+1) listed a w:=wpAnyH_ready hr J4 (AllReadyH.cons ho h AllReadyH.nil)
theorem tk(e:ops[i]?=some b)(d:(Region.noSelect ops&&Region.free md ops listed i&&(Region.ready md ops listed).contains i)=true)(hw:Region.wanted b (yielded ops a.tmps)=true)(hv:∀u,S u->(execOp a.eval b).run P u=.ok (.value v) u)(f:S w)(h:wpAnyH P md ops Q S fuel (listed.setIfInBounds i true) (a.put b.dst v) w)(hQ:∀c a w,Q (.panic c) (a.put b.dst v) w->Q (.panic c) a w:=by exact λ_ _ _ h=>h):wpAnyH P md ops Q S (fuel+1) listed a w:=by
 simp only[Fa]at d;exact wpAnyH_take e d.1.1 d.1.2 d.2 hQ (.inl ⟨hw,hv⟩) f h
theorem tu(e:ops[i]?=some b)(d:(Region.noSelect ops&&Region.free md ops listed i&&(Region.ready md ops listed).contains i)=true)(hw:Region.wanted b (yielded ops a.tmps)=false)(f:S w)(h:wpAnyH P md ops Q S fuel (listed.setIfInBounds i true) (a.put b.dst undef) w)(hQ:∀c a w,Q (.panic c) (a.put b.dst undef) w->Q (.panic c) a w:=by exact λ_ _ _ h=>h):wpAnyH P md ops Q S (fuel+1) listed a w:=by
 simp only[Fa]at d;exact wpAnyH_take e d.1.1 d.1.2 d.2 hQ (.inr ⟨hw,rfl⟩) f h
theorem tq(i:Nat)(f:S w)(h:wpAnyH P md ops Q S fuel (listed.setIfInBounds i true) (a.put d v) w)(b:ops[i]?=some ⟨d,op,ty,p,af,g⟩:=by exact rfl)(e:(Region.noSelect ops&&Region.free md ops listed i&&(Region.ready md ops listed).contains i)=true:=by kernel_rfl)(hw:Region.wanted ⟨d,op,ty,p,af,g⟩ (yielded ops a.tmps)=true:=by exact rfl)(hv:∀u,S u->(execOp a.eval ⟨d,op,ty,p,af,g⟩).run P u=.ok (.value v) u:=by intro wq hSw;(try dsimp only at hSw);go_simp;try with_reducible rfl)(hQ:∀c a w,Q (.panic c) (a.put d v) w->Q (.panic c) a w:=by first|exact λ_ _ _ h=>h|exact λ_ _ _ h=>hQ _ _ _ _ _ h):wpAnyH P md ops Q S (fuel+1) listed a w:=tk b e hw hv f h hQ
theorem uq(i:Nat)(f:S w)(h:wpAnyH P md ops Q S fuel (listed.setIfInBounds i true) (a.put d undef) w)(b:ops[i]?=some ⟨d,op,ty,p,af,g⟩:=by exact rfl)(e:(Region.noSelect ops&&Region.free md ops listed i&&(Region.ready md ops listed).contains i)=true:=by kernel_rfl)(hw:Region.wanted ⟨d,op,ty,p,af,g⟩ (yielded ops a.tmps)=false:=by exact rfl)(hQ:∀c a w,Q (.panic c) (a.put d undef) w->Q (.panic c) a w:=by first|exact λ_ _ _ h=>h|exact λ_ _ _ h=>hQ _ _ _ _ _ h):wpAnyH P md ops Q S (fuel+1) listed a w:=tu b e hw f h hQ
section
variable{P:Program}{ops:Array Oper}{md:Region.Mode}{v:Value}{fuel:Nat}{listed:Array Bool}{a:Act}{w:World}{d:Option Nat}{op:Op}{ty:TypeId}{p:String}{af:Array Edge}
theorem y_{Q:Exit->Act->World->Prop}{S:World->Prop}{g:Option (Nat×Bool)}{a1:Act}(i:Nat)(h:wpAnyH P md ops Q S fuel (listed.setIfInBounds i true) a1 w)(f:S w:=by assumption)(b:ops[i]?=some ⟨d,op,ty,p,af,g⟩:=by exact rfl)(e:(Region.noSelect ops&&Region.free md ops listed i&&(Region.ready md ops listed).contains i)=true:=by kernel_rfl)(hw:Region.wanted ⟨d,op,ty,p,af,g⟩ (yielded ops a.tmps)=true:=by exact rfl)(hv:∀u,S u->(execOp a.eval ⟨d,op,ty,p,af,g⟩).run P u=.ok (.value v) u:=by intro wq hSw;(try dsimp only at hSw);go_simp;try with_reducible rfl)(hQ:∀c a w,Q (.panic c) (a.put d v) w->Q (.panic c) a w:=by first|exact λ_ _ _ h=>h|exact λ_ _ _ h=>hQ _ _ _ _ _ h)(j:a.put d v=a1:=by first|(simp only[qq];rfl)|rfl):wpAnyH P md ops Q S (fuel+1) listed a w:=tq i f (j▸h) b e hw hv hQ
theorem uqq{Q:Exit->Act->World->Prop}{S:World->Prop}{g:Option (Nat×Bool)}{a1:Act}(i:Nat)(h:wpAnyH P md ops Q S fuel (listed.setIfInBounds i true) a1 w)(f:S w:=by assumption)(b:ops[i]?=some ⟨d,op,ty,p,af,g⟩:=by exact rfl)(e:(Region.noSelect ops&&Region.free md ops listed i&&(Region.ready md ops listed).contains i)=true:=by kernel_rfl)(hw:Region.wanted ⟨d,op,ty,p,af,g⟩ (yielded ops a.tmps)=false:=by exact rfl)(hQ:∀c a w,Q (.panic c) (a.put d undef) w->Q (.panic c) a w:=by first|exact λ_ _ _ h=>h|exact λ_ _ _ h=>hQ _ _ _ _ _ h)(j:a.put d undef=a1:=by first|(simp only[qq];rfl)|rfl):wpAnyH P md ops Q S (fuel+1) listed a w:=uq i f (j▸h) b e hw hQ
theorem G9{S:World->Prop}{X K:Act->World->Prop}{a1:Act}(c:Shut (∀a w,S w->(S w->X a w)->K a w))(b:S w)(h:S w->X a1 w)(d:a=a1:=by first|(simp only[qq];rfl)|rfl):K a w:=c.o _ _ b (d▸h)
theorem uT{S:World->Prop}{X K:Act->World->Prop}{a1:Act}(c:Shut (∀a w,S w->(S w->X a w)->K a w))(h:S w->X a1 w)(b:S w:=by (try dsimp only);go_keep)(d:a=a1:=by first|(simp only[qq];rfl)|rfl):K a w:=c.o _ _ b (d▸h)
theorem kpk{S:World->Prop}{X K:Act->World->Prop}(c:Shut (∀a w,S w->(S w->X a w)->K a w))(h:S w->X a w)(b:S w:=by (try dsimp only);go_keep):K a w:=c.o _ _ b h
theorem wdn{Q:Exit->Act->World->Prop}{S:World->Prop}(h:Q .normal a w)(hr:Region.ready md ops listed=[]:=by kernel_rfl):wpAnyH P md ops Q S fuel listed a w:=wpAnyH_done hr h _
end
theorem rq{P:Program}{ops:Array Oper}{Q:Exit->Act->World->Prop}{md:Region.Mode}{S:World->Prop}{fuel:Nat}{listed:Array Bool}{a:Act}{w:World}{d:Option Nat}{op:Op}{ty:TypeId}{p:String}{af:Array Edge}{g:Option (Nat×Bool)}(i:Nat)(h:∀b:Act->World->Prop,Shut (∀a w,S w->(S w->wpAnyH P md ops Q S fuel (listed.setIfInBounds i true) a w)->b a w)->if Region.wanted ⟨d,op,ty,p,af,g⟩ (yielded ops a.tmps)=true then Oper.wp P ⟨d,op,ty,p,af,g⟩ a w b Q else b (a.put d undef) w)(ho:ops[i]?=some ⟨d,op,ty,p,af,g⟩:=by exact rfl)(hr:Region.ready md ops listed=[i]:=by kernel_rfl):wpAnyH P md ops Q S (fuel+1) listed a w:=rd ho hr h
def nx(ls:List Bool):Nat->List Oper->Option Nat
 | _,[]=>none
 | k,o::r=>cond (!(ls.getD k true)&&o.after.toList.all λe=>ls.getD e.on false) (some k) (nx ls (k+1) r)
theorem sq{P:Program}{ops:Array Oper}{Q:Exit->Act->World->Prop}{md:Region.Mode}{S:World->Prop}{v:Value}{fuel:Nat}{listed:Array Bool}{a a1:Act}{w:World}{d:Option Nat}{op:Op}{ty:TypeId}{p:String}{af:Array Edge}{g:Option (Nat×Bool)}{i:Nat}(h:wpAnyH P md ops Q S fuel (listed.setIfInBounds i true) a1 w)(j:S w:=by assumption)(hr:nx listed.toList 0 ops.toList=some i:=by exact rfl)(f:ops[i]?=some ⟨d,op,ty,p,af,g⟩:=by exact rfl)(b:(Region.noSelect ops&&Region.free md ops listed i&&(Region.ready md ops listed).contains i)=true:=by kernel_rfl)(hw:(Region.wanted ⟨d,op,ty,p,af,g⟩ (yielded ops a.tmps)=true/\∀u,S u->(execOp a.eval ⟨d,op,ty,p,af,g⟩).run P u=.ok (.value v) u)\/(Region.wanted ⟨d,op,ty,p,af,g⟩ (yielded ops a.tmps)=false/\v=undef):=by first|exact .inr ⟨rfl,rfl⟩|(refine .inl ⟨rfl,?_⟩;intro wq hSw;(try dsimp only at hSw);go_simp;try with_reducible rfl))(hQ:∀c a w,Q (.panic c) (a.put d v) w->Q (.panic c) a w:=by first|exact λ_ _ _ h=>h|exact λ_ _ _ h=>hQ _ _ _ _ _ h)(k:a.put d v=a1:=by first|(simp only[qq];rfl)|rfl):wpAnyH P md ops Q S (fuel+1) listed a w:=by
 simp only[Fa]at b;refine wpAnyH_take f b.1.1 b.1.2 b.2 hQ (hw.imp id λ⟨h,e⟩=>⟨h,e⟩) j (k▸h)
def nxs(ls:List Bool):Nat->List Oper->List Nat
 | _,[]=>[]
 | k,o::r=>cond (!(ls.getD k true)&&o.after.toList.all λe=>ls.getD e.on false) (k::nxs ls (k+1) r) (nxs ls (k+1) r)
section
variable{P:Program}{ops:Array Oper}{Q:Exit->Act->World->Prop}{md:Region.Mode}{S:World->Prop}{fuel i j k:Nat}{ls:Array Bool}{a:Act}{w:World}{o o2 o3:Oper}
def Up(P:Program)(ops:Array Oper)(Q:Exit->Act->World->Prop)(md:Region.Mode)(S:World->Prop)(fuel:Nat)(ls:Array Bool)(a:Act)(w:World)(i:Nat)(o:Oper):Prop:=∀K:Act->World->Prop,Shut (∀a w,S w->(S w->wpAnyH P md ops Q S fuel (ls.setIfInBounds i true) a w)->K a w)->if Region.wanted o (yielded ops a.tmps)=true then Oper.wp P o a w K Q else K (a.put o.dst undef) w
theorem an1(h:Up P ops Q md S fuel ls a w i o)(hn:(nxs ls.toList 0 ops.toList).length=1:=by kernel_rfl)(hr:nxs ls.toList 0 ops.toList=[i]:=by exact rfl)(ho:ops[i]?=some o:=by exact rfl)(hk:Region.ready md ops ls=[i]:=by kernel_rfl):wpAnyH P md ops Q S (fuel+1) ls a w:=wpAnyH_ready hk J4 (AllReadyH.cons ho h AllReadyH.nil)
theorem an2(h:Up P ops Q md S fuel ls a w i o)(h2:Up P ops Q md S fuel ls a w j o2)(hn:(nxs ls.toList 0 ops.toList).length=2:=by kernel_rfl)(hr:nxs ls.toList 0 ops.toList=[i,j]:=by exact rfl)(ho:ops[i]?=some o:=by exact rfl)(b:ops[j]?=some o2:=by exact rfl)(hk:Region.ready md ops ls=[i,j]:=by kernel_rfl):wpAnyH P md ops Q S (fuel+1) ls a w:=wpAnyH_ready hk J4 (AllReadyH.cons ho h (AllReadyH.cons b h2 AllReadyH.nil))
theorem an3(h:Up P ops Q md S fuel ls a w i o)(h2:Up P ops Q md S fuel ls a w j o2)(d:Up P ops Q md S fuel ls a w k o3)(hn:(nxs ls.toList 0 ops.toList).length=3:=by kernel_rfl)(hr:nxs ls.toList 0 ops.toList=[i,j,k]:=by exact rfl)(ho:ops[i]?=some o:=by exact rfl)(c:ops[j]?=some o2:=by exact rfl)(b:ops[k]?=some o3:=by exact rfl)(hk:Region.ready md ops ls=[i,j,k]:=by kernel_rfl):wpAnyH P md ops Q S (fuel+1) ls a w:=wpAnyH_ready hk J4 (AllReadyH.cons ho h (AllReadyH.cons c h2 (AllReadyH.cons b d AllReadyH.nil)))
end
end Go.Proofs.YtdgneicbmalnpaaGreatDoor
namespace Go.Proofs.YtdgneicbmalnpaaGreatDoor
open Go.RowKit Go.Maps
variable{a b k:BY}{l:List (ByteArray×Value)}
def h_(v:Value):Option (DataW Value×List MemPlace):=some (.held v,[])
def kS(s:BY):Lit:=.string s.data.toList
def eS(p:BY×Value):Lit×DataW Value:=(kS p.1,.held p.2)
def mapD(l:List (ByteArray×Value)):DataW Value:=.map (l.map eS)
def Bj(a b:BY):Bool:=bytesBefore a.data.toList b.data.toList
def Yg(x:BY×Value):List (ByteArray×Value)->List (ByteArray×Value)
 | []=>[x]
 | y::r=>if Bj x.1 y.1 then x::y::r else y::Yg x r
def Asc(l:List (ByteArray×Value)):Prop:=l.Pairwise λp q=>Bj p.1 q.1=true
def Y_(l:List (ByteArray×Value))(k:BY):Option Value:=(l.find? λp=>decide (p.1=k)).map (·.2)
theorem OM(h:a.data.toList=b.data.toList):a=b:=by
 apply jg;exact Yl.1 h
theorem Rz(a b:BY):(kS a).sameKey (kS b)=decide (a=b):=by
 show(a.data.toList==b.data.toList)=decide (a=b);by_cases h:a=b
 ·simp[h]
 rw[j_ h];exact S_.2 (λe=>h (OM e))
theorem EN(l:List (ByteArray×Value))(k:BY)(z:DataW Value):(mapD l).atKey (kS k) z=match Y_ l k with|some v=>.held v|none=>z:=by
 unfold mapD DataW.atKey Y_;simp only[List.find?_map];have e:((λp:Lit×DataW Value=>p.1.sameKey (kS k))∘eS)=λp=>decide (p.1=k):=funext λp=>Rz p.1 k;rw[e];cases List.find? (λp:BY×Value=>decide (p.1=k)) l<;>rfl
theorem EQ(l:List (ByteArray×Value))(k:BY):has (mapD l) (kS k)=(Y_ l k).isSome:=by
 show(l.map eS).any (λp=>p.1.sameKey (kS k))=_;rw[List.any_map];have e:((λp:Lit×DataW Value=>p.1.sameKey (kS k))∘eS)=λp=>decide (p.1=k):=funext λp=>Rz p.1 k;rw[e];unfold Y_;rw[Option.isSome_map,Bool.eq_iff_iff];simp
theorem O_(l:List (ByteArray×Value)):size (mapD l)=l.length:=by
 show(l.map eS).length=_;simp
theorem Zr(l:List (ByteArray×Value)):strKeys (mapD l)=l.map λp=>p.1.data.toList:=by
 show(l.map eS).map _=_;simp[eS,kS,strOf,Function.comp_def]
theorem TL(x:BY×Value)(l:List (ByteArray×Value)):(Yg x l).map eS=DataW.insert (eS x) (l.map eS):=by
 induction l with
 | nil=>rfl
 | cons y r ih=>
  unfold Yg;show _=if (kS x.1).before (kS y.1)=true then _ else _;show List.map eS (if bytesBefore x.1.data.toList y.1.data.toList=true then _ else _)=if bytesBefore x.1.data.toList y.1.data.toList=true then _ else _;split
  ·rfl
  simp[ih]
theorem Za:Y_ l k=none↔∀p∈l,p.1≠k:=by
 unfold Y_;simp
theorem pq(v:Value)(h:Y_ l k=none):(mapD l).put (kS k) (.held v)=mapD (Yg (k,v) l):=by
 show DataW.map (DataW.insert (eS (k,v)) ((l.map eS).filter λp=>!p.1.sameKey (kS k)))=DataW.map ((Yg (k,v) l).map eS);rw[TL]
 congr 2
 rw[lK];intro p b;obtain⟨q,a,rfl⟩:=Rh.1 b;show(!(kS q.1).sameKey (kS k))=true;rw[Rz,j_ (Za.1 h q a)];rfl
theorem Fe(x:BY×Value)(l:List (ByteArray×Value)):(Yg x l).Perm (x::l):=by
 induction l with
 | nil=>exact zF _
 | cons y r ih=>
  unfold Yg;split
  ·exact zF _
  exact(ih.cons y).trans (List.Perm.swap x y r)
theorem Eh(a:BY):Bj a a=false:=WideAt.bytes_irrefl _
theorem Vx{c:BY}(h:Bj a b=true)(d:Bj b c=true):Bj a c=true:=WideShapes.bytes_trans _ _ _ h d
theorem OL(h:a≠b):Bj a b=true\/Bj b a=true:=WideAt.bytes_total _ _ (λe=>h (OM e))
theorem uw{x:BY×Value}(h:Asc l)(hx:∀p∈l,p.1≠x.1):Asc (Yg x l):=by
 induction l with
 | nil=>exact List.pairwise_singleton _ _
 | cons y r ih=>
  have c:=zu.1 h;unfold Yg;split
  ·rename_i b;exact zu.2 ⟨λp a=>by
    rcases qf.1 a with rfl|a
    ·exact b
    exact Vx b (c.1 p a),h⟩
  rename_i b;have d:=(OL (hx y (Gt ..))).elim id (λe=>absurd e b);refine zu.2 ⟨λp a=>?_,ih c.2 (λp a=>hx p (Ug _ a))⟩;rcases qf.1 ((Fe x r).mem_iff.1 a)with rfl|a
  ·exact d
  exact c.1 p a
theorem a0w{c:List (ByteArray×Value)}(h:Asc l)(e:Asc c)(d:l.Perm c):l=c:=by
 refine List.Perm.eq_of_pairwise (le:=λ(p q:BY×Value)=>Bj p.1 q.1=true) (λa b _ _ h1 h2=>?_) h e d;have:=Vx h1 h2;rw[Eh]at this;cases this
theorem ZA{v:Value}(h:Y_ l k=some v):(k,v)∈l:=by
 unfold Y_ at h;obtain⟨p,a,rfl⟩:=qC.1 h;have h1:=MV a;have h2:=jJ a;simp at h2;rw[<- h2];exact h1
theorem Ik(h:Asc l){k:BY}{v:Value}(hm:(k,v)∈l):Y_ l k=some v:=by
 induction l with
 | nil=>cases hm
 | cons y r ih=>
  have a:=zu.1 h;rcases qf.1 hm with rfl|hm
  ·simp[Y_]
  have b:y.1≠k:=λe=>by
   have:=a.1 _ hm;rw[e]at this;simp only[Eh]at this;cases this
  have hr:=ih a.2 hm;unfold Y_ at hr ⊢;rw[List.find?_cons_of_neg (by simpa using b)];exact hr
theorem JK(f l:List (ByteArray×Value))(hf:Asc f)(hl:Asc l)(hd:∀p∈f,Y_ l p.1=none):Asc (f.foldl (λa p=>Yg p a) l)/\(f.foldl (λa p=>Yg p a) l).Perm (f++l)/\Lib.mergeD (mapD l) (mapD f)=mapD (f.foldl (λa p=>Yg p a) l):=by
 show _/\_/\(f.map eS).foldl (λD p=>D.put p.1 p.2) (mapD l)=_
 induction f generalizing l with
 | nil=>exact⟨hl,zF _,rfl⟩
 | cons y r ih=>
  have g:=zu.1 hf;have c:=hd y (Gt ..);obtain⟨j,i,h⟩:=ih (Yg y l) g.2 (uw hl (Za.1 c)) (λp d=>Za.2 (λq b=>by
   rcases qf.1 ((Fe y l).mem_iff.1 b)with rfl|b
   ·intro e;have:=g.1 p d;rw[e,Eh]at this;cases this
   exact Za.1 (hd p (Ug _ d)) q b))
  refine⟨j,?_,?_⟩
  ·show(List.foldl (λa p=>Yg p a) (Yg y l) r).Perm (y::(r++l));exact i.trans (((Fe y l).append_left r).trans List.perm_middle)
  show(r.map eS).foldl (λD p=>D.put p.1 p.2) ((mapD l).put (kS y.1) (.held y.2))=_;rw[pq y.2 c];exact h
theorem WG:∀(a b:List UInt8),bytesBefore a b=true->a<=b
 | [],_,_=>List.nil_le _
 | _::_,[],h=>by simp[bytesBefore]at h
 | x::r,y::s,h=>by
  simp[bytesBefore]at h;rcases h with h|⟨rfl,h⟩
  ·exact List.le_of_lt (List.Lex.rel h)
  exact List.cons_le_cons_iff.2 (.inr ⟨rfl,WG r s h⟩)
theorem Bq(h:Asc l){ss:List (List UInt8)}(a:ss.Perm (strKeys (mapD l))):ss.mergeSort (λx y=>decide (x<=y))=l.map λp=>p.1.data.toList:=by
 rw[Zr]at a;have e:=mergeSort_of_perm a;show ss.mergeSort leB=_;rw[e];apply RQ;refine List.pairwise_map.2 (h.imp λ{p q} hb=>?_);simpa[leB]using WG _ _ hb
def iE(i:Nat)(v:Value):Lit×DataW Value:=(.int .i64 i,.held v)
def intD(vs:List Value):DataW Value:=.map ((List.range vs.length).map λi=>iE i (vs.getD i undef))
theorem lm(vs:List Value):size (intD vs)=vs.length:=by
 show((List.range vs.length).map λi=>iE i (vs.getD i undef)).length=_;simp
theorem zD(vs:List Value):intKeys (intD vs)=(List.range vs.length).map λi:Nat=>(i:Int):=by
 show((List.range vs.length).map λi=>iE i (vs.getD i undef)).map _=_;simp[iE,Go.intOf,Function.comp_def]
theorem qY(vs:List Value)(k:Nat)(z:DataW Value):(intD vs).atKey (.int .i64 k) z=if k<vs.length then .held (vs.getD k undef) else z:=by
 unfold intD DataW.atKey;simp only[List.find?_map];have e:((λp:Lit×DataW Value=>p.1.sameKey (.int .i64 k))∘λi=>iE i (vs.getD i undef))=λi=>decide (i=k):=funext λi=>by simp[iE,Lit.sameKey];omega
 rw[e];by_cases h:k<vs.length
 ·rw[D8 h];have:List.find? (λi=>decide (i=k)) (List.range vs.length)=some k:=by
   cases hq:List.find? (λi=>decide (i=k)) (List.range vs.length) with
   | none=>exact absurd (cu.1 hq k (Yp.2 h)) J4
   | some j=>have:=jJ hq;simp at this;rw[this]
  rw[this];rfl
 rw[U7 h];have:List.find? (λi=>decide (i=k)) (List.range vs.length)=none:=cu.2 (λj a=>by have:=Yp.1 a;simp;omega);rw[this];rfl
theorem xU(x:Lit×DataW Value)(l:List (Lit×DataW Value))(h:∀p∈l,x.1.before p.1=false):DataW.insert x l=l++[x]:=by
 induction l with
 | nil=>rfl
 | cons y r ih=>
  unfold DataW.insert;rw[h y (Gt ..),ih (λp a=>h p (Ug _ a))];simp
theorem uU(vs:List Value)(v:Value):(intD vs).put (.int .i64 vs.length) (.held v)=intD (vs++[v]):=by
 show DataW.map (DataW.insert (iE vs.length v) (((List.range vs.length).map λi=>iE i (vs.getD i undef)).filter λp=>!p.1.sameKey (.int .i64 vs.length)))=DataW.map ((List.range (vs++[v]).length).map λi=>iE i ((vs++[v]).getD i undef))
 congr 1
 rw[lK.2,xU]
 ·rw[Q9,jk,fC,Nl]
  congr 1
  ·apply ku;intro i a;have:=Yp.1 a;unfold iE;simp[List.getD,D_ this]
  simp[iE,List.getD]
 ·intro p b;obtain⟨i,a,rfl⟩:=Rh.1 b;have:=Yp.1 a;show decide ((vs.length:Int)<(i:Int))=false;simp;omega
 intro p b;obtain⟨i,a,rfl⟩:=Rh.1 b;have:=Yp.1 a;simp[iE,Lit.sameKey];omega
theorem yH{vs:List Value}{ss:List Int}(a:ss.Perm (intKeys (intD vs))):ss.mergeSort (λx y=>decide (x<=y))=(List.range vs.length).map λi:Nat=>(i:Int):=by
 rw[zD]at a;have e:=mergeSort_of_perm_i a;show ss.mergeSort leI=_;rw[e];apply RQ;refine List.pairwise_map.2 (List.pairwise_lt_range.imp λ{p q} hb=>?_);simp[leI];omega
end Go.Proofs.YtdgneicbmalnpaaGreatDoor
namespace Go.Proofs
open Go.Shelf
def Tryz.keysA_ren:Go.Shelf.Ren:=⟨λ| 7=>271|10=>310|n=>n, λ| 23=>290|26=>9|3=>298|28=>266|0=>0|27=>265|33=>67|4=>4|n=>n, λ| n=>n⟩
theorem Tryz.keysA:Go.Proofs.SlLaysZ.n7 prog Tryz.keysA_ren:={
 mixed:=Y0
 f7:=⟨Tryz.f271.name,U5,func271.trans (G7 some Y0)⟩
 f10:=⟨Tryz.f310.name,U5,func310.trans (G7 some Y0)⟩
 t0:=underlying0
 a0:=Tryz.isAgg0
 z0:=Tryz.sizeOf0
 v0:=Tryz.zeroValue0
 t4:=underlying4
 a4:=Tryz.isAgg4
 z4:=Tryz.sizeOf4
 v4:=Tryz.zeroValue4
 t23:=underlying290
 a23:=Tryz.isAgg290
 z23:=Tryz.sizeOf290
 v23:=Tryz.zeroValue290
 t26:=underlying9
 a26:=Tryz.isAgg9
 z26:=Tryz.sizeOf9
 v26:=Tryz.zeroValue9
 t27:=underlying265
 a27:=Tryz.isAgg265
 z27:=Tryz.sizeOf265
 v27:=Tryz.zeroValue265
 t28:=underlying266
 a28:=Tryz.isAgg266
 z28:=Tryz.sizeOf266
 v28:=Tryz.zeroValue266
 t33:=underlying67
 a33:=Tryz.isAgg67
 z33:=Tryz.sizeOf67
 v33:=Tryz.zeroValue67 }
def Tryz.sortedA_ren:Go.Shelf.Ren:=⟨λ| 6=>187|8=>246|9=>247|11=>289|13=>291|12=>290|23=>333|24=>334|14=>324|15=>325|16=>326|17=>327|18=>328|19=>329|20=>330|21=>331|22=>332|25=>346|26=>347|27=>348|28=>349|29=>350|30=>351|31=>370|n=>n, λ| 26=>9|28=>266|24=>22|0=>0|3=>3|37=>370|48=>414|50=>394|4=>4|40=>437|39=>436|45=>325|5=>5|9=>9|51=>450|55=>454|57=>469|58=>470|33=>67|n=>n, λ| n=>n⟩
theorem Tryz.sortedA:Go.Proofs.SlLaysZ.n6 prog Tryz.sortedA_ren:={
 mixed:=Y0
 f6:=⟨Tryz.f187.name,U5,func187.trans (G7 some Y0)⟩
 f8:=⟨Tryz.f246.name,U5,func246.trans (G7 some Y0)⟩
 f11:=⟨Tryz.f289.name,U5,func289.trans (G7 some Y0)⟩
 t0:=underlying0
 a0:=Tryz.isAgg0
 z0:=Tryz.sizeOf0
 v0:=Tryz.zeroValue0
 t24:=underlying22
 a24:=Tryz.isAgg22
 z24:=Tryz.sizeOf22
 v24:=Tryz.zeroValue22
 t26:=underlying9
 a26:=Tryz.isAgg9
 z26:=Tryz.sizeOf9
 v26:=Tryz.zeroValue9
 t28:=underlying266
 a28:=Tryz.isAgg266
 z28:=Tryz.sizeOf266
 v28:=Tryz.zeroValue266
 i26:=by kernel_rfl }
def Tryz.BO:Go.Shelf.Ren:=⟨λ| 6=>247|8=>291|9=>290|19=>333|20=>334|21=>324|22=>325|23=>326|24=>327|25=>328|26=>329|27=>330|28=>331|29=>332|36=>346|31=>347|32=>348|37=>349|38=>350|39=>351|41=>370|n=>n, λ| 27=>22|29=>9|3=>3|32=>370|26=>22|0=>0|44=>414|46=>394|4=>4|36=>437|35=>436|41=>325|5=>5|9=>9|53=>450|57=>454|63=>469|64=>470|n=>n, λ| n=>n⟩
theorem Tryz.sortA:Go.Proofs.SlLaysM.n6 prog Tryz.BO:={
 mixed:=Y0
 f6:=⟨Tryz.f247.name,U5,func247.trans (G7 some Y0)⟩
 f8:=func291.trans (G7 some Y0)
 f9:=⟨Tryz.f290.name,U5,func290.trans (G7 some Y0)⟩
 f19:=func333.trans (G7 some Y0)
 f20:=func334.trans (G7 some Y0)
 f21:=⟨Tryz.f324.name,U5,func324.trans (G7 some Y0)⟩
 f22:=⟨Tryz.f325.name,U5,func325.trans (G7 some Y0)⟩
 f23:=⟨Tryz.f326.name,U5,func326.trans (G7 some Y0)⟩
 f24:=⟨Tryz.f327.name,U5,func327.trans (G7 some Y0)⟩
 f25:=⟨Tryz.f328.name,U5,func328.trans (G7 some Y0)⟩
 f26:=⟨Tryz.f329.name,U5,func329.trans (G7 some Y0)⟩
 f27:=⟨Tryz.f330.name,U5,func330.trans (G7 some Y0)⟩
 f28:=⟨Tryz.f331.name,U5,func331.trans (G7 some Y0)⟩
 f29:=⟨Tryz.f332.name,U5,func332.trans (G7 some Y0)⟩
 f31:=func347.trans (G7 some Y0)
 f32:=func348.trans (G7 some Y0)
 f36:=⟨Tryz.f346.name,U5,func346.trans (G7 some Y0)⟩
 f37:=⟨Tryz.f349.name,U5,func349.trans (G7 some Y0)⟩
 f38:=⟨Tryz.f350.name,U5,func350.trans (G7 some Y0)⟩
 f39:=⟨Tryz.f351.name,U5,func351.trans (G7 some Y0)⟩
 f41:=⟨Tryz.f370.name,U5,func370.trans (G7 some Y0)⟩
 t0:=underlying0
 a0:=Tryz.isAgg0
 z0:=Tryz.sizeOf0
 v0:=Tryz.zeroValue0
 t3:=underlying3
 a3:=Tryz.isAgg3
 z3:=Tryz.sizeOf3
 v3:=Tryz.zeroValue3
 t4:=underlying4
 a4:=Tryz.isAgg4
 z4:=Tryz.sizeOf4
 v4:=Tryz.zeroValue4
 t5:=underlying5
 a5:=Tryz.isAgg5
 z5:=Tryz.sizeOf5
 v5:=Tryz.zeroValue5
 t9:=underlying9
 a9:=Tryz.isAgg9
 z9:=Tryz.sizeOf9
 v9:=Tryz.zeroValue9
 t26:=underlying22
 a26:=Tryz.isAgg22
 z26:=Tryz.sizeOf22
 v26:=Tryz.zeroValue22
 t27:=underlying22
 a27:=Tryz.isAgg22
 z27:=Tryz.sizeOf22
 v27:=Tryz.zeroValue22
 t29:=underlying9
 a29:=Tryz.isAgg9
 z29:=Tryz.sizeOf9
 v29:=Tryz.zeroValue9
 t32:=underlying370
 a32:=Tryz.isAgg370
 z32:=Tryz.sizeOf370
 v32:=Tryz.zeroValue370
 t35:=underlying436
 a35:=Tryz.isAgg436
 z35:=Tryz.sizeOf436
 v35:=Tryz.zeroValue436
 t36:=underlying437
 a36:=Tryz.isAgg437
 z36:=Tryz.sizeOf437
 v36:=Tryz.zeroValue437
 t41:=underlying325
 a41:=Tryz.isAgg325
 z41:=Tryz.sizeOf325
 v41:=Tryz.zeroValue325
 t44:=underlying414
 a44:=Tryz.isAgg414
 z44:=Tryz.sizeOf414
 v44:=Tryz.zeroValue414
 t46:=underlying394
 a46:=Tryz.isAgg394
 z46:=Tryz.sizeOf394
 v46:=Tryz.zeroValue394
 t53:=underlying450
 a53:=Tryz.isAgg450
 z53:=Tryz.sizeOf450
 v53:=Tryz.zeroValue450
 t57:=underlying454
 a57:=Tryz.isAgg454
 z57:=Tryz.sizeOf454
 v57:=Tryz.zeroValue454
 t63:=underlying469
 a63:=Tryz.isAgg469
 z63:=Tryz.sizeOf469
 v63:=Tryz.zeroValue469
 t64:=underlying470
 a64:=Tryz.isAgg470
 z64:=Tryz.sizeOf470
 v64:=Tryz.zeroValue470 }
def Tryz.keysB_ren:Go.Shelf.Ren:=⟨λ| 7=>274|10=>313|n=>n, λ| 23=>291|26=>3|3=>179|28=>368|0=>0|27=>367|33=>108|4=>4|n=>n, λ| n=>n⟩
theorem Tryz.keysB:Go.Proofs.SlLaysZI.n7 prog Tryz.keysB_ren:={
 mixed:=Y0
 f7:=⟨Tryz.f274.name,U5,func274.trans (G7 some Y0)⟩
 f10:=⟨Tryz.f313.name,U5,func313.trans (G7 some Y0)⟩
 t0:=underlying0
 a0:=Tryz.isAgg0
 z0:=Tryz.sizeOf0
 v0:=Tryz.zeroValue0
 t4:=underlying4
 a4:=Tryz.isAgg4
 z4:=Tryz.sizeOf4
 v4:=Tryz.zeroValue4
 t23:=underlying291
 a23:=Tryz.isAgg291
 z23:=Tryz.sizeOf291
 v23:=Tryz.zeroValue291
 t26:=underlying3
 a26:=Tryz.isAgg3
 z26:=Tryz.sizeOf3
 v26:=Tryz.zeroValue3
 t27:=underlying367
 a27:=Tryz.isAgg367
 z27:=Tryz.sizeOf367
 v27:=Tryz.zeroValue367
 t28:=underlying368
 a28:=Tryz.isAgg368
 z28:=Tryz.sizeOf368
 v28:=Tryz.zeroValue368
 t33:=underlying108
 a33:=Tryz.isAgg108
 z33:=Tryz.sizeOf108
 v33:=Tryz.zeroValue108 }
def Tryz.sortedB_ren:Go.Shelf.Ren:=⟨λ| 6=>273|8=>311|9=>312|11=>344|13=>291|12=>345|23=>333|24=>334|14=>361|15=>362|16=>363|17=>364|18=>365|19=>366|20=>367|21=>368|22=>369|25=>375|26=>347|27=>348|28=>376|29=>377|30=>378|31=>383|n=>n, λ| 26=>3|28=>368|24=>31|0=>0|3=>3|37=>370|48=>414|50=>394|4=>4|40=>437|39=>436|45=>325|5=>5|9=>9|51=>450|55=>454|57=>469|58=>470|33=>108|n=>n, λ| n=>n⟩
theorem Tryz.sortedB:Go.Proofs.SlLaysZI.n6 prog Tryz.sortedB_ren:={
 mixed:=Y0
 f6:=⟨Tryz.f273.name,U5,func273.trans (G7 some Y0)⟩
 f8:=⟨Tryz.f311.name,U5,func311.trans (G7 some Y0)⟩
 f11:=⟨Tryz.f344.name,U5,func344.trans (G7 some Y0)⟩
 t0:=underlying0
 a0:=Tryz.isAgg0
 z0:=Tryz.sizeOf0
 v0:=Tryz.zeroValue0
 t24:=underlying31
 a24:=Tryz.isAgg31
 z24:=Tryz.sizeOf31
 v24:=Tryz.zeroValue31
 t26:=underlying3
 a26:=Tryz.isAgg3
 z26:=Tryz.sizeOf3
 v26:=Tryz.zeroValue3
 t28:=underlying368
 a28:=Tryz.isAgg368
 z28:=Tryz.sizeOf368
 v28:=Tryz.zeroValue368
 i26:=by kernel_rfl }
def Tryz.KO:Go.Shelf.Ren:=⟨λ| 5=>312|8=>291|7=>345|19=>333|20=>334|10=>361|11=>362|12=>363|13=>364|14=>365|15=>366|16=>367|17=>368|18=>369|30=>375|31=>347|32=>348|33=>376|34=>377|35=>378|40=>383|n=>n, λ| 23=>31|25=>3|3=>3|32=>370|22=>31|0=>0|44=>414|46=>394|4=>4|36=>437|35=>436|41=>325|5=>5|9=>9|53=>450|57=>454|63=>469|64=>470|n=>n, λ| n=>n⟩
theorem Tryz.sortB:Go.Proofs.SlLaysM.n5 prog Tryz.KO:={
 mixed:=Y0
 f5:=⟨Tryz.f312.name,U5,func312.trans (G7 some Y0)⟩
 f7:=⟨Tryz.f345.name,U5,func345.trans (G7 some Y0)⟩
 f8:=func291.trans (G7 some Y0)
 f10:=⟨Tryz.f361.name,U5,func361.trans (G7 some Y0)⟩
 f11:=⟨Tryz.f362.name,U5,func362.trans (G7 some Y0)⟩
 f12:=⟨Tryz.f363.name,U5,func363.trans (G7 some Y0)⟩
 f13:=⟨Tryz.f364.name,U5,func364.trans (G7 some Y0)⟩
 f14:=⟨Tryz.f365.name,U5,func365.trans (G7 some Y0)⟩
 f15:=⟨Tryz.f366.name,U5,func366.trans (G7 some Y0)⟩
 f16:=⟨Tryz.f367.name,U5,func367.trans (G7 some Y0)⟩
 f17:=⟨Tryz.f368.name,U5,func368.trans (G7 some Y0)⟩
 f18:=⟨Tryz.f369.name,U5,func369.trans (G7 some Y0)⟩
 f19:=func333.trans (G7 some Y0)
 f20:=func334.trans (G7 some Y0)
 f30:=⟨Tryz.f375.name,U5,func375.trans (G7 some Y0)⟩
 f31:=func347.trans (G7 some Y0)
 f32:=func348.trans (G7 some Y0)
 f33:=⟨Tryz.f376.name,U5,func376.trans (G7 some Y0)⟩
 f34:=⟨Tryz.f377.name,U5,func377.trans (G7 some Y0)⟩
 f35:=⟨Tryz.f378.name,U5,func378.trans (G7 some Y0)⟩
 f40:=⟨Tryz.f383.name,U5,func383.trans (G7 some Y0)⟩
 t0:=underlying0
 a0:=Tryz.isAgg0
 z0:=Tryz.sizeOf0
 v0:=Tryz.zeroValue0
 t3:=underlying3
 a3:=Tryz.isAgg3
 z3:=Tryz.sizeOf3
 v3:=Tryz.zeroValue3
 t4:=underlying4
 a4:=Tryz.isAgg4
 z4:=Tryz.sizeOf4
 v4:=Tryz.zeroValue4
 t5:=underlying5
 a5:=Tryz.isAgg5
 z5:=Tryz.sizeOf5
 v5:=Tryz.zeroValue5
 t9:=underlying9
 a9:=Tryz.isAgg9
 z9:=Tryz.sizeOf9
 v9:=Tryz.zeroValue9
 t22:=underlying31
 a22:=Tryz.isAgg31
 z22:=Tryz.sizeOf31
 v22:=Tryz.zeroValue31
 t23:=underlying31
 a23:=Tryz.isAgg31
 z23:=Tryz.sizeOf31
 v23:=Tryz.zeroValue31
 t25:=underlying3
 a25:=Tryz.isAgg3
 z25:=Tryz.sizeOf3
 v25:=Tryz.zeroValue3
 t32:=underlying370
 a32:=Tryz.isAgg370
 z32:=Tryz.sizeOf370
 v32:=Tryz.zeroValue370
 t35:=underlying436
 a35:=Tryz.isAgg436
 z35:=Tryz.sizeOf436
 v35:=Tryz.zeroValue436
 t36:=underlying437
 a36:=Tryz.isAgg437
 z36:=Tryz.sizeOf437
 v36:=Tryz.zeroValue437
 t41:=underlying325
 a41:=Tryz.isAgg325
 z41:=Tryz.sizeOf325
 v41:=Tryz.zeroValue325
 t44:=underlying414
 a44:=Tryz.isAgg414
 z44:=Tryz.sizeOf414
 v44:=Tryz.zeroValue414
 t46:=underlying394
 a46:=Tryz.isAgg394
 z46:=Tryz.sizeOf394
 v46:=Tryz.zeroValue394
 t53:=underlying450
 a53:=Tryz.isAgg450
 z53:=Tryz.sizeOf450
 v53:=Tryz.zeroValue450
 t57:=underlying454
 a57:=Tryz.isAgg454
 z57:=Tryz.sizeOf454
 v57:=Tryz.zeroValue454
 t63:=underlying469
 a63:=Tryz.isAgg469
 z63:=Tryz.sizeOf469
 v63:=Tryz.zeroValue469
 t64:=underlying470
 a64:=Tryz.isAgg470
 z64:=Tryz.sizeOf470
 v64:=Tryz.zeroValue470 }
