import Derived.Test.YtdgneicbmalnpaaGreatDoorKC
import Derived.Maps.OwnRows
import Derived.Test.YtdgneicbmalnpaaGreatDooreP2
set_option linter.all false
set_option maxRecDepth 99999
set_option maxHeartbeats 0
open Go.Value renaming slice->Sa,string->Sb,int->Sc,pointer->Sd
open Go.IntKind renaming i64->Se
open Go.Ending renaming returned->Sf
open Go.Obj renaming cells->Sg
namespace Go.Proofs.YtdgneicbmalnpaaGreatDoor
open Proofs.Tryz Go.RowKit Go.Maps
variable{k:BY}{w w':World}{R:Value->Option (DataW Value×List MemPlace)}{B H N b bP bR bT n:Nat}{D:DataW Value}{v z:Value}{l pl:List (ByteArray×Value)}{e t:TypeId}{rv vs:List Value}{ops:Array Oper}{o:Oper}{a:Act}{K:Act->World->Prop}{Q:Exit->Act->World->Prop}{E:Prop}{row:Option Nat}{W:Int}{rs:List R3}{zs:List Int}
theorem Bz:Keyed prog 9:=string_keyed underlying9
theorem a3m:Keyed prog 3:=int_keyed underlying3
theorem keyS(h:k.size<=maxLen):keyOf prog 9 (Sb k)=some (kS k):=Go.WideMaps.keyOf_string_mk underlying9 h
theorem a3S{i:Nat}(h:i<=1048576):keyOf prog 3 (Sc Se i)=some (.int .i64 i):=keyOf_int_mk underlying3 (WalkArith.wf_i64 O0)
theorem Wj{k:TypeId}(h:w.ownsMap prog k R b n D):w.ownsMap prog k R b (Maps.size D) D:=by
 obtain⟨es,c,a,F,hs,hD⟩:=h;refine⟨es,c,a,F,?_,hD⟩;rw[hD,size_eq,length_sorted];simp
theorem U9{k:TypeId}(h:w.ownsMap prog k R b n D)(c:Below N w w')(d:b<N):w'.ownsMap prog k R b n D:=by
 obtain⟨es,e,a,r⟩:=h;exact⟨es,e,(c.block b d).trans a,r⟩
theorem Ic{k:TypeId}(h:w.ownsMap prog k R b n D):∃es a,w.heap[b]?=some (.map es a):=by
 obtain⟨es,a,c,r⟩:=h;exact⟨es,a,c⟩
theorem MG{d:DataW Value}{ps:List MemPlace}(h:h_ v=some (d,ps)):d=.held v:=by
 unfold h_ at h;simp only[Iw,iJ]at h;exact h.1.symm
theorem yE(h:w.ownsMap prog 9 h_ b n (mapD l))(ht:prog.underlying t=some (.map 9 e))(hz:(zeroValue e).run prog w=.ok z w)(hk:k.size<=maxLen):
 (Instr.lookup t (.map (some b)) (Sb k) true).run prog w=.ok (.tuple #[(Y_ l k).getD z,.bool (Y_ l k).isSome]) w:=by
 obtain⟨v,ps,hr,hv⟩:=h.look_ok Bz ht hz (zd:=.held z) (zp:=[]) rfl (keyS hk);have hd:=MG hv;rw[EN]at hd;rw[EQ]at hr;rw[hr]
 cases hg:Y_ l k with
 | none=>rw[hg]at hd;simp at hd;rw[hd];rfl
 | some u=>rw[hg]at hd;simp at hd;rw[hd];rfl
theorem BB(h:w.ownsMap prog 9 h_ b n (mapD l))(ht:prog.underlying t=some (.map 9 e))(hz:(zeroValue e).run prog w=.ok z w)(hk:k.size<=maxLen):
 (Instr.lookup t (.map (some b)) (Sb k) false).run prog w=.ok ((Y_ l k).getD z) w:=by
 obtain⟨v,ps,hr,hv⟩:=h.lookup Bz ht hz (zd:=.held z) (zp:=[]) rfl (keyS hk);have hd:=MG hv;rw[EN]at hd;rw[hr]
 cases hg:Y_ l k with
 | none=>rw[hg]at hd;simp at hd;rw[hd];rfl
 | some u=>rw[hg]at hd;simp at hd;rw[hd];rfl
theorem WQ{k:Nat}(h:w.ownsMap prog 3 h_ b n (intD vs))(ht:prog.underlying t=some (.map 3 e))(hz:(zeroValue e).run prog w=.ok z w)(hk:k<=1048576)(a:k<vs.length):
 (Instr.lookup t (.map (some b)) (Sc Se k) false).run prog w=.ok (vs.getD k undef) w:=by
 obtain⟨v,ps,hr,hv⟩:=h.lookup a3m ht hz (zd:=.held z) (zp:=[]) rfl (a3S hk);have hd:=MG hv;rw[qY,D8 a]at hd;simp at hd;rw[hr,Qk,hd]
theorem a4k(h:w.ownsMap prog 9 h_ b n (mapD l))(ht:prog.underlying t=some (.map 9 e))(a:n<maxLen)(hk:k.size<=maxLen):
 ∃w',(Instr.mapUpdate t (.map (some b)) (Sb k) v).run prog w=.ok () w'/\w'.ownsMap prog 9 h_ b (n+1) ((mapD l).put (kS k) (.held v))/\w.grownBy w' (some b):=
 h.update Bz ht a (keyS hk) (d:=.held v) (ps:=[]) rfl
theorem a5O(h:w.ownsMap prog 3 h_ b n (intD vs))(ht:prog.underlying t=some (.map 3 e))(c:n<maxLen)(hk:vs.length<=1048576):
 ∃w',(Instr.mapUpdate t (.map (some b)) (Sc Se vs.length) v).run prog w=.ok () w'/\w'.ownsMap prog 3 h_ b (vs++[v]).length (intD (vs++[v]))/\w.grownBy w' (some b):=by
 obtain⟨w',h1,h2,f⟩:=h.update a3m ht c (a3S hk) (d:=.held v) (ps:=[]) rfl;rw[uU]at h2;have a:=Wj h2;rw[lm]at a;exact⟨w',h1,a,f⟩
theorem wU(g:o.guard=none)(t:TypeId)(m x v:Operand)(ho:o.op=Op.mapUpdate t m x v){b n:Nat}{vs:List Value}{e:TypeId}{vv:Value}
 (hm:a.eval m=.map (some b)) (hx:a.eval x=Sc Se vs.length) (hv:a.eval v=vv) (h:w.ownsMap prog 3 h_ b n (intD vs)) (ht:prog.underlying t=some (.map 3 e)) (f:n<maxLen) (hk:vs.length<=1048576) (d:o.dst=none)
 (i:∀w',w'.ownsMap prog 3 h_ b (vs++[vv]).length (intD (vs++[vv]))->w.grownBy w' (some b)->K a w'):
 if Region.wanted o (yielded ops a.tmps)=true then Oper.wp prog o a w K Q else E:=by
 have hw:Region.wanted o (yielded ops a.tmps)=true:=by simp[Region.wanted,g]
 rw[D8 hw];obtain⟨w',hr,h1,h2⟩:=a5O (v:=vv) h ht f hk;have c:=i w' h1 h2;unfold Oper.wp;simp[execOp,ho,hm,hx,hv,hr,Result.andThen]
 first
  | exact c
  | (simp only[Oper.upon];exact c)
  | (simp only[Oper.upon,d];exact c)
  | (simp only[Act.put,d];exact c)
theorem Np(g:o.guard=none)(t:TypeId)(m x v:Operand)(ho:o.op=Op.mapUpdate t m x v){b n:Nat}{l:List (ByteArray×Value)}{k:BY}{e:TypeId}{vv:Value}
 (hm:a.eval m=.map (some b)) (hx:a.eval x=Sb k) (hv:a.eval v=vv) (h:w.ownsMap prog 9 h_ b n (mapD l)) (ht:prog.underlying t=some (.map 9 e)) (f:n<maxLen) (hk:k.size<=maxLen) (d:o.dst=none)
 (i:∀w',w'.ownsMap prog 9 h_ b (n+1) ((mapD l).put (kS k) (.held vv))->w.grownBy w' (some b)->K a w'):
 if Region.wanted o (yielded ops a.tmps)=true then Oper.wp prog o a w K Q else E:=by
 have hw:Region.wanted o (yielded ops a.tmps)=true:=by simp[Region.wanted,g]
 rw[D8 hw];obtain⟨w',hr,h1,h2⟩:=a4k (v:=vv) h ht f hk;have c:=i w' h1 h2;unfold Oper.wp;simp[execOp,ho,hm,hx,hv,hr,Result.andThen]
 first
  | exact c
  | (simp only[Oper.upon];exact c)
  | (simp only[Oper.upon,d];exact c)
  | (simp only[Act.put,d];exact c)
def LC(B:Nat)(w:World)(v:Value)(x:R3):Prop:=∃a c,v=.agg #[Sb x.key,Sa a x.gs.length c,Sb x.o]/\R_ w a x.gs/\(x.gs=[]\/∃b off,a=some ⟨b,off,none⟩/\(b<B\/∃cur fr,w.heap[b]?=some (Sg cur 235 fr)))
def AL(B:Nat)(w:World)(row:Option Nat):Prop:=∀j,row=some j->B<=j/\∀cur fr,w.heap[j]?≠some (Sg cur 235 fr)
theorem LC.kept{x:R3}(h:LC B w v x)(m:w.grownBy w' row)(hr:AL B w row):LC B w' v x:=by
 obtain⟨a,c,hv,q,p⟩:=h;rcases p with f|⟨b,off,ha,d⟩
 ·exact⟨a,c,hv,.inl f,.inl f⟩
 rcases q with f|⟨b',k,j,l,hc⟩
 ·exact⟨a,c,hv,.inl f,.inl f⟩
 obtain⟨rfl,rfl⟩:b'=b/\k=off:=by rw[ha]at j;simp at j;exact⟨j.1.symm,j.2.symm⟩
 have n:some b'≠row:=λe=>by
  have:=hr b' e.symm;rcases d with d|⟨cur,fr,d⟩
  ·omega
  exact this.2 cur fr d
 have g:=m.block b' l n;refine⟨a,c,hv,.inr ⟨b',k,ha,P9 l m.size,λi o=>?_⟩,.inr ⟨b',k,ha,?_⟩⟩
 ·obtain⟨h0,h1,h2⟩:=hc i o;refine⟨?_,?_,?_⟩
  ·rw[<- h0];simp only[World.cell?,g]
  ·rw[<- h1];simp only[World.cell?,g]
  rw[<- h2];simp only[World.cell?,g]
 rcases d with d|⟨cur,fr,d⟩
 ·exact .inl d
 exact .inr ⟨cur,fr,g.trans d⟩
def vz(rs:List R3)(k:BY):List Int:=((List.range rs.length).filter λi=>decide ((rs.getD i d_).key=k)).map λi:Nat=>(i:Int)
theorem pI(rs:List R3)(x:R3)(k:BY):vz (rs++[x]) k=vz rs k++if x.key=k then [(rs.length:Int)] else []:=by
 unfold vz;rw[Q9,jk,fC,Kw,Nl]
 congr 1
 ·congr 1
  apply List.filter_congr;intro i a;have:=Yp.1 a;have e:(rs++[x]).getD i d_=rs.getD i d_:=by simp[List.getD,D_ this]
  rw[e]
 by_cases h:x.key=k<;>simp[List.getD,h]
theorem PG(rs:List R3)(k:BY):(vz rs k).length<=rs.length:=by
 unfold vz;rw[Ve];exact X7 (tK _ _) J4
def oh(w:World)(b:Nat)(t:TypeId):Prop:=∃cur fr,w.heap[b]?=some (Sg cur t fr)
theorem oh.below(h:oh w b t)(a:Below N w w')(c:b<N):oh w' b t:=by
 obtain⟨cur,fr,h⟩:=h;exact⟨cur,fr,(a.block b c).trans h⟩
theorem oh.kept(h:oh w b t)(c:w.grownBy w' row)(a:some b≠row):oh w' b t:=by
 obtain⟨cur,fr,h⟩:=h;exact⟨cur,fr,(c.block b (Ya.1 h).1 a).trans h⟩
theorem zM(w:World)(a:Array Value)(t:TypeId):oh (w.alloc (Sg a t)) w.heap.size t:=⟨a,(0,0),(MapKept.heap_alloc w _).1⟩
structure JC(B H bT bR bP:Nat)(W:Int)(l:List (ByteArray×Value))(rv:List Value)(pl:List (ByteArray×Value))(w:World):Prop where
 hH:B<=H
 hT:B<=bT
 hR:B<=bR
 hP:B<=bP
 lt:H<w.heap.size
 n1:bT≠bR
 n2:bT≠bP
 n3:bR≠bP
 blk:J6 w H [Sc Se W,.map (some bT),.map (some bR),.map (some bP)]
 tx:w.ownsMap prog 9 h_ bT l.length (mapD l)
 ta:Asc l
 rc:w.ownsMap prog 3 h_ bR rv.length (intD rv)
 pc:w.ownsMap prog 9 h_ bP pl.length (mapD pl)
 pa:Asc pl
 ty:oh w H 294
structure ShR(B:Nat)(rs:List R3)(rv:List Value)(pl:List (ByteArray×Value))(w:World):Prop where
 len:rv.length=rs.length
 recs:∀i,i<rs.length->LC B w (rv.getD i undef) (rs.getD i d_)
 grp:∀k v,Y_ pl k=some v->w.ownsInts B 3 .i64 v (vz rs k)
 non:∀k,Y_ pl k=none->vz rs k=[]
 apart:∀k k' v v',k≠k'->Y_ pl k=some v->Y_ pl k'=some v'->v.ownBlock=none\/v.ownBlock≠v'.ownBlock
 pln:pl.length<=rs.length
theorem Bh(h:w.cell? ⟨H,0,none⟩=some v){es:Array MapEntry}{c:Nat}(hm:w.heap[b]?=some (.map es c)):H≠b:=λe=>by
 subst e;simp[World.cell?,hm]at h
theorem m_(a:w.grownBy w' row)(hr:∀j,row=some j->N<=j)(hN:N<=w.heap.size):Below N w w':=
 ⟨a.os,a.tape,a.output,a.size,λk hk=>a.block k O0 (λe=>by have:=hr k e.symm;omega)⟩
theorem Yd(h:Bw w w'):w.grownBy w' none:=⟨h.os,h.tape,h.output,h.size,λk hk _=>h.block k hk⟩
theorem Qb(h:J6 w H vs)(c:w.grownBy w' row)(b:H<w.heap.size)(a:some H≠row):J6 w' H vs:=λj v e=>by
 have:=h j v e;simp only[World.cell?,c.block H b a];simpa only[World.cell?]using this
theorem JC.kept(h:JC B H bT bR bP W l rv pl w)(a:w.grownBy w' row)(a1:some H≠row)(a2:some bT≠row)(c:some bR≠row)(b:some bP≠row):JC B H bT bR bP W l rv pl w':=
 ⟨h.hH,h.hT,h.hR,h.hP,P9 h.lt a.size,h.n1,h.n2,h.n3,Qb h.blk a h.lt a1,h.tx.kept a a2,h.ta,h.rc.kept a c,h.pc.kept a b,h.pa,h.ty.kept a a1⟩
theorem ShR.kept(h:ShR B rs rv pl w)(a:w.grownBy w' row)(hr:AL B w row)(b:∀k v,Y_ pl k=some v->v.ownBlock=none\/v.ownBlock≠row):ShR B rs rv pl w':=
 ⟨h.len,λi hl=>(h.recs i hl).kept a hr,λk v e=>(h.grp k v e).kept a (b k v e),h.non,h.apart,h.pln⟩
theorem Gh(h:w.ownsInts B 3 .i64 v zs){j:Nat}(a:v.ownBlock=some j):B<=j/\j<w.heap.size/\∃cur,w.heap[j]?=some (Sg cur 3 (0,0)):=by
 rcases h.1.2 with⟨rfl,_⟩|⟨g,cap,cur,rfl,c,b,_⟩
 ·simp[Value.ownBlock]at a
 simp[Value.ownBlock]at a;subst a;exact⟨c,(Ya.1 b).1,cur,b⟩
theorem ShR.below(h:ShR B rs rv pl w)(a:Bw w w'):ShR B rs rv pl w':=
 h.kept (Yd a) (λ_ e=>by cases e) (λk v e=>by
  cases hq:v.ownBlock with
  | none=>exact .inl rfl
  | some j=>exact .inr J4)
theorem JC.below(h:JC B H bT bR bP W l rv pl w)(a:Bw w w'):JC B H bT bR bP W l rv pl w':=
 h.kept (Yd a) J4 J4 J4 J4
theorem ShR.map(h:ShR B rs rv pl w)(a:w.grownBy w' (some b))(hB:B<=b){es:Array MapEntry}{c:Nat}(hm:w.heap[b]?=some (.map es c)):ShR B rs rv pl w':=
 h.kept a (λj e=>by cases e;exact⟨hB,λcur fr e=>by rw[hm]at e;simp at e⟩) (λk v e=>by
  cases hq:v.ownBlock with
  | none=>exact .inl rfl
  | some j=>
   refine .inr λd=>?_;obtain⟨_,_,cur,hc⟩:=Gh (h.grp k v e) hq;cases d;rw[hm]at hc;simp at hc)
theorem iC(ha:Asc l)(k:BY)(v:Value):Asc (Yg (k,v) (l.filter λp=>!decide (p.1=k)))/\∀k',Y_ (Yg (k,v) (l.filter λp=>!decide (p.1=k))) k'=if k'=k then some v else Y_ l k':=by
 have hf:Asc (l.filter λp=>!decide (p.1=k)):=ha.filter _;have hA:Asc (Yg (k,v) (l.filter λp=>!decide (p.1=k))):=uw hf (λp a=>by have:=(Ep.1 a).2;simpa using this);refine⟨hA,λk'=>?_⟩;have b:∀p,p∈Yg (k,v) (l.filter λp=>!decide (p.1=k))↔p=(k,v)\/(p∈l/\p.1≠k):=λp=>by
  rw[(Fe _ _).mem_iff,qf,Ep];simp
 by_cases h:k'=k
 ·subst h;rw[D8 rfl];exact Ik hA ((b _).2 (.inl rfl))
 rw[U7 h]
 cases hq:Y_ l k' with
 | none=>
  exact Za.2 (λp a=>by
   rcases(b p).1 a with rfl|⟨a,_⟩
   ·exact λe=>h e.symm
   exact Za.1 hq p a)
 | some u=>exact Ik hA ((b _).2 (.inr ⟨ZA hq,h⟩))
theorem fE(l:List (ByteArray×Value))(k:BY)(v:Value):(mapD l).put (kS k) (.held v)=mapD (Yg (k,v) (l.filter λp=>!decide (p.1=k))):=by
 show DataW.map (DataW.insert (eS (k,v)) ((l.map eS).filter λp=>!p.1.sameKey (kS k)))=DataW.map ((Yg (k,v) _).map eS);rw[TL,List.filter_map]
 congr 2
 congr 1
 apply List.filter_congr;intro p _;show(!(kS p.1).sameKey (kS k))=_;rw[Rz]
def KF(w w':World):Prop:=∀q t,oh w q t->t≠3->w'.heap[q]?=w.heap[q]?
theorem KF.trans{u v:World}(h:KF w u)(g:KF u v):KF w v:=λq t hT ht=>by
 have e:=h q t hT ht;obtain⟨cs,fr,a⟩:=hT;exact(g q t ⟨cs,fr,e.trans a⟩ ht).trans e
theorem Zd(h:Below N w w')(hN:w.heap.size<=N):KF w w':=λq t hT _=>h.block q (by obtain⟨cs,fr,a⟩:=hT;have:=(Ya.1 a).1;omega)
theorem MB{c:Nat}{es:Array MapEntry}(d:w.grownBy w' (some b))(hm:w.heap[b]?=some (.map es c)):KF w w':=λq t hT _=>by
 obtain⟨cs,fr,a⟩:=hT;refine d.block q (Ya.1 a).1 λe=>?_;obtain rfl:=C_ e;rw[hm]at a;cases a
theorem tN(b:w.grownBy w' v.ownBlock)(h:w.ownsInts B 3 .i64 v zs):KF w w':=λq t hT ht=>by
 obtain⟨cs,fr,a⟩:=hT;refine b.block q (Ya.1 a).1 λe=>?_;obtain⟨_,_,cur,hc⟩:=Gh h e.symm;rw[a]at hc;injection hc with hc;injection hc with _ hc _;exact ht hc
end Go.Proofs.YtdgneicbmalnpaaGreatDoor
namespace Go.Proofs.YtdgneicbmalnpaaGreatDoor.T
open Proofs.Tryz Go.RowKit
variable{w:World}{a:OA}{v:Bool}{t:BY}{h i j:Nat}
theorem Yb(q:Nat)(h:q<1048577):IntKind.i64.wrap (q:Int)=(q:Int):=by
 have h1:(q:Int) % 2^64=q:=O0;simp only[IntKind.wrap,IntKind.bits,IntKind.signed,h1];rw[U7 L8]
structure F2 where
 nm:BY
 tx:BY
def o9:F2:=⟨⟨#[]⟩,⟨#[]⟩⟩
def P6(w:World)(a:OA)(rs:List F2):Prop:=
 rs=[]\/∃b off,a=some ⟨b,off,none⟩/\b<w.heap.size/\∀i,i<rs.length->w.cell? ⟨b,off+i*2,none⟩=some (Sb (rs.getD i o9).nm)/\w.cell? ⟨b,off+i*2+1,none⟩=some (Sb (rs.getD i o9).tx)
theorem r_{rs:List F2}(h:P6 w a rs):∃b off,(rs=[]\/(a=some ⟨b,off,none⟩/\b<w.heap.size/\∀i,i<rs.length->w.cell? ⟨b,off+i*2,none⟩=some (Sb (rs.getD i o9).nm)/\w.cell? ⟨b,off+i*2+1,none⟩=some (Sb (rs.getD i o9).tx))):=by
 rcases h with h|⟨b,off,h⟩
 ·exact⟨0,0,.inl h⟩
 exact⟨b,off,.inr h⟩
theorem J5{w':World}{rs:List F2}(h:P6 w a rs)(c:Bw w w'):P6 w' a rs:=by
 rcases h with h|⟨b,off,h1,h2,e⟩
 ·exact .inl h
 exact .inr ⟨b,off,h1,P9 h2 c.size,λi d=>by rw[c.cell (by exact h2),c.cell (by exact h2)];exact e i d⟩
def F2.le(x:F2)(B:Nat):Prop:=x.nm.size<=B/\x.tx.size<=B
theorem OB(u:World)(B j m:Nat)(a v1:Value)(h0:m≠j)(h1:m≠j+1):((u.setCell ⟨B,j,none⟩ a).setCell ⟨B,j+1,none⟩ v1).cell? ⟨B,m,none⟩=u.cell? ⟨B,m,none⟩:=by
 rw[Nb _ _ _ _ (Le (Xn h1)),Nb _ _ _ _ (Le (Xn h0))]
theorem Nr:(prog.info? 169).map (λi=>(i.zero,i.size,i.bytes))=some (some (.agg #[Sb ⟨#[]⟩,Sb ⟨#[]⟩]),2,32):=Y0
def Qa(x:F2):Bool:=Y5 x.nm.data.toList&&decide ((x.tx.size:Int)<=300)
theorem jX(x:F2)(w:World)(hs:x.le 1048700):
 Calls prog 200 #[.agg #[Sb x.nm,Sb x.tx]] w λe w'=>e=Sf (.bool (Qa x))/\Bw w w':=by
 have a:Hid (Qa x=(Y5 x.nm.data.toList&&decide ((x.tx.size:Int)<=300))):=rfl;obtain⟨h1,h2⟩:=hs
 go_in
 go_wp2_with fail
 refine(c21 _ _ h1).mono ?_;rintro e w1⟨rfl,rfl⟩;cases hn:Y5 x.nm.data.toList
 all_goals
  rw[hn]at a;go_wp2
  all_goals go_ret
  all_goals exact⟨Z9 (by rw[a.o];simp),U6⟩
theorem IW(x:F2)(w:World)(hs:x.le 1048700):
 Calls prog 235 #[.agg #[Sb x.nm,Sb x.tx]] w λe w'=>e=Sf (.bool (Qa x))/\Bw w w':=by
 have a:Hid (Qa x=(Y5 x.nm.data.toList&&decide ((x.tx.size:Int)<=300))):=rfl;obtain⟨h1,h2⟩:=hs
 go_in
 go_wp2_with fail
 refine(c80 _ _ h1).mono ?_;rintro e w1⟨rfl,rfl⟩;cases hn:Y5 x.nm.data.toList
 all_goals
  rw[hn]at a;go_wp2
  all_goals go_ret
  all_goals exact⟨Z9 (by rw[a.o];simp),U6⟩
theorem a2F{x:F2}(hv:Qa x=v)(w:World)(hs:x.le 1048700):
 Calls prog 200 #[.agg #[Sb x.nm,Sb x.tx]] w λe w'=>e=Sf (.bool v)/\Bw w w':=hv▸jX x w hs
theorem a2t{x:F2}(hv:Qa x=v)(w:World)(hs:x.le 1048700):
 Calls prog 235 #[.agg #[Sb x.nm,Sb x.tx]] w λe w'=>e=Sf (.bool v)/\Bw w w':=hv▸IW x w hs
def bg(fs:List F2)(k:Nat):Bool:=Qa (fs.getD k o9)&&(decide (k=0)||Op.bytesLess (fs.getD (k-1) o9).nm.toList (fs.getD k o9).nm.toList)
def G_(fs:List F2):Prop:=fs.length<=40/\∀k,k<fs.length->bg fs k=true
theorem step_up{fs:List F2}{k:Nat}(h:Hid (∀j,j<k->bg fs j=true))(e:Hid (bg fs k=true)):Hid (∀j,j<k+1->bg fs j=true):=λj hj=>by
 rcases Z7 j k with a|a
 ·exact h.o j a
 obtain rfl:j=k:=O0;exact e.o
theorem a0y(a:OA)(cap:Nat)(fs:List F2)(w:World)(hl:fs.length<=1048576)(hs:∀i,(fs.getD i o9).le 1048576)(C:P6 w a fs):
 Calls prog 205 #[.agg #[Sa a fs.length cap]] w λe w'=>(∃b:Bool,e=Sf (.bool b)/\(b=true↔G_ fs))/\Bw w w':=by
 obtain⟨b,off,hc⟩:=r_ C;have F:=U0 hc;by_cases hbig:40<fs.length
 ·go_in
  go_wp2;go_ret;exact⟨⟨false,rfl,by simp[G_];omega⟩,U6⟩
 go_in
 go_wp2;go_loopw[3] (λi wr=>∃k:Nat,k<=fs.length/\i=Sc Se k/\Below w.heap.size w wr/\wr.cell? ⟨w.heap.size,0,none⟩=some (Sa a fs.length cap)/\w.heap.size+1<=wr.heap.size/\Hid (∀j,j<k->bg fs j=true)) (λi _=>fs.length-(RowKit.intOf i).toNat);exact⟨0,Y4 _,rfl,U6,J4,J4,λj h=>absurd h (U8 _)⟩;obtain⟨k,hk,rfl,c,s,hz,p⟩:=hrel;by_cases f:k<fs.length;rotate_left
 ·have m:Hid (G_ fs):=⟨O0,λj hj=>p.o j O0⟩;go_wp2;go_ret;exact⟨⟨true,rfl,by simp only[true_iff];exact m.o⟩,c⟩
 obtain⟨ha,l,n⟩:=Ud F.o f;subst ha;have H:=U0 c;have g0:=(c.cell (by exact l)).trans (n k f).1;have g1:=(c.cell (by exact l)).trans (n k f).2;have o:=P9 l c.size;have z:Hid ((fs.getD k o9).le 1048700):=⟨X7 (hs k).1 O0,X7 (hs k).2 O0⟩;rcases wu k with h0|h0
 focus
  subst h0;have g:Hid (bg fs 0=Qa (fs.getD 0 o9)):=by simp[bg,Hid]
  simp only[Gw,Zo]at g0 g1;generalize fs.getD 0 o9=x at*;cases hx:Qa x
 rotate_left 2
 focus
  obtain⟨q,hq⟩:∃q,q+1=k:=⟨k-1,O0⟩;have g2:=(c.cell (by exact l)).trans (n q O0).1;have g:Hid (bg fs k=(Qa (fs.getD k o9)&&Op.bytesLess (fs.getD q o9).nm.toList (fs.getD k o9).nm.toList)):=by
   have e1:decide (k=0)=false:=j_ O0;have E:k-1=q:=O0;unfold bg;rw[e1,E];rfl
  have A:(0:Int)<(k:Int):=O0;have hm1:=X_ A;generalize fs.getD k o9=x at*;generalize fs.getD q o9=y at*;have hwr:IntKind.i64.wrap ((k:Int)-1)=(q:Int):=by rw[show(k:Int)-1=(q:Int) by omega];exact Yb q O0
  have hql:(q:Int)<(fs.length:Int):=O0;cases hx:Qa x
  all_goals cases hy:Op.bytesLess y.nm.toList x.nm.toList
 all_goals
  go_wp2_with fail
  first|refine wp_region_held_drew (S:=(λu=>u.cell? ⟨w.heap.size,0,none⟩=some (vL (some ⟨b,off,none⟩) fs.length cap)/\u.cell? ⟨b,off+k*2,none⟩=some (vS x.nm)/\u.cell? ⟨b,off+k*2+1,none⟩=some (vS x.tx)/\u.cell? ⟨b,off+q*2,none⟩=some (vS y.nm))) Y0 ?_ λhH=>?_|refine wp_region_held_drew (S:=(λu=>u.cell? ⟨w.heap.size,0,none⟩=some (vL (some ⟨b,off,none⟩) fs.length cap)/\u.cell? ⟨b,off,none⟩=some (vS x.nm)/\u.cell? ⟨b,off+1,none⟩=some (vS x.tx))) Y0 ?_ λhH=>?_
  · ((try dsimp only);go_keep)
  iterate 5 refine sq ?_
  refine rq 5 λK D=>?_;go_simp;refine(a2F hx _ z).mono ?_;rintro e w1⟨rfl,B⟩;have d:Hid (Bw wr w1):=((O4 _ _).drew).trans B;have t:=(d.o.cell (by show w.heap.size<wr.heap.size;omega)).trans s;have p1:=(d.o.cell (by exact o)).trans g0;have p2:=(d.o.cell (by exact o)).trans g1
  try have p3:=(d.o.cell (by exact o)).trans g2
  go_wp2_with fail
  refine D _ _ ?_ λhH=>?_
  · ((try dsimp only);go_keep)
  iterate 21 refine sq ?_
  refine wdn ?_;have r:=E5 H d;have v:=X7 hz d.o.size
  first|rw[hx,hy]at g|rw[hx]at g
  first
  |(have m:=step_up p g
    go_wp2;go_roundw;exact⟨_,f,by go_num,r,t,v,m⟩;exact V9)
  |(clear hH
    go_wp2;go_ret;exact⟨⟨false,rfl,by simp only[Bool.false_eq_true,false_iff];intro h;have:=h.2 _ f;rw[g.o]at this;cases this⟩,r⟩)
theorem c173(a:OA)(cap:Nat)(fs:List F2)(w:World)(hl:fs.length<=1048576)(hs:∀i,(fs.getD i o9).le 1048576)(L:P6 w a fs):
 Calls prog 173 #[.agg #[Sa a fs.length cap]] w λe w'=>(∃b:Bool,e=Sf (.bool b)/\(b=true↔G_ fs))/\Bw w w':=by
 obtain⟨b,off,hc⟩:=r_ L;have R:=U0 hc;by_cases hbig:40<fs.length
 ·go_in
  go_wp2;go_ret;exact⟨⟨false,rfl,by simp[G_];omega⟩,U6⟩
 go_in
 go_wp2;go_loopw[12] (λi wr=>∃k:Nat,k<=fs.length/\i=Sc Se k/\Below w.heap.size w wr/\wr.cell? ⟨w.heap.size,0,none⟩=some (Sa a fs.length cap)/\w.heap.size+1<=wr.heap.size/\Hid (∀j,j<k->bg fs j=true)) (λi _=>fs.length-(RowKit.intOf i).toNat);exact⟨0,Y4 _,rfl,U6,J4,J4,λj h=>absurd h (U8 _)⟩;obtain⟨k,hk,rfl,c,A,hz,p⟩:=hrel;by_cases f:k<fs.length;rotate_left
 ·have m:Hid (G_ fs):=⟨O0,λj hj=>p.o j O0⟩;go_wp2;go_ret;exact⟨⟨true,rfl,by simp only[true_iff];exact m.o⟩,c⟩
 obtain⟨ha,l,n⟩:=Ud R.o f;subst ha;have t:=U0 c;have g0:=(c.cell (by exact l)).trans (n k f).1;have g1:=(c.cell (by exact l)).trans (n k f).2;have H:=P9 l c.size;have E:Hid ((fs.getD k o9).le 1048700):=⟨X7 (hs k).1 O0,X7 (hs k).2 O0⟩;rcases wu k with h0|h0
 focus
  subst h0;have g:Hid (bg fs 0=Qa (fs.getD 0 o9)):=by simp[bg,Hid]
  simp only[Gw,Zo]at g0 g1;generalize fs.getD 0 o9=x at*;cases hx:Qa x
 rotate_left 2
 focus
  obtain⟨q,hq⟩:∃q,q+1=k:=⟨k-1,O0⟩;have g2:=(c.cell (by exact l)).trans (n q O0).1;have g:Hid (bg fs k=(Qa (fs.getD k o9)&&Op.bytesLess (fs.getD q o9).nm.toList (fs.getD k o9).nm.toList)):=by
   have e1:decide (k=0)=false:=j_ O0;have Q:k-1=q:=O0;unfold bg;rw[e1,Q];rfl
  have F:(0:Int)<(k:Int):=O0;have hm1:=X_ F;generalize fs.getD k o9=x at*;generalize fs.getD q o9=y at*;have hwr:IntKind.i64.wrap ((k:Int)-1)=(q:Int):=by rw[show(k:Int)-1=(q:Int) by omega];exact Yb q O0
  have hql:(q:Int)<(fs.length:Int):=O0;cases hx:Qa x
  all_goals cases hy:Op.bytesLess y.nm.toList x.nm.toList
 all_goals
  go_wp2_with fail
  have o:Hid (Bw wr (wr.alloc (Sg #[vS x.nm,vS x.tx] 169))):=U6;have z:=(o.o.cell (by show w.heap.size<wr.heap.size;omega)).trans A
  try have v:=(o.o.cell (by exact H)).trans g2
  have P:(wr.alloc (Sg #[vS x.nm,vS x.tx] 169)).cell? ⟨wr.heap.size,0,none⟩=some (vS x.nm):=J4;have O:(wr.alloc (Sg #[vS x.nm,vS x.tx] 169)).cell? ⟨wr.heap.size,1,none⟩=some (vS x.tx):=J4;have r:wr.heap.size<(wr.alloc (Sg #[vS x.nm,vS x.tx] 169)).heap.size:=J4;generalize (wr.alloc (Sg #[vS x.nm,vS x.tx] 169))=W at*;have D:w.heap.size<W.heap.size:=O0;have I:b<W.heap.size:=O0
  first|refine wp_region_held_drew (S:=(λu=>u.cell? ⟨w.heap.size,0,none⟩=some (vL (some ⟨b,off,none⟩) fs.length cap)/\u.cell? ⟨wr.heap.size,0,none⟩=some (vS x.nm)/\u.cell? ⟨wr.heap.size,1,none⟩=some (vS x.tx)/\u.cell? ⟨b,off+q*2,none⟩=some (vS y.nm))) Y0 ?_ λhH=>?_|refine wp_region_held_drew (S:=(λu=>u.cell? ⟨w.heap.size,0,none⟩=some (vL (some ⟨b,off,none⟩) fs.length cap)/\u.cell? ⟨wr.heap.size,0,none⟩=some (vS x.nm)/\u.cell? ⟨wr.heap.size,1,none⟩=some (vS x.tx))) Y0 ?_ λhH=>?_
  · ((try dsimp only);go_keep)
  iterate 1 refine sq ?_
  refine rq 1 λK N=>?_;go_simp;refine(a2t hx _ E).mono ?_;rintro e w1⟨rfl,J⟩;have d:Hid (Bw W w1):=((O4 _ _).drew).trans J;have B:=(d.o.cell (by exact D)).trans z;have p1:=(d.o.cell (by exact r)).trans P;have p2:=(d.o.cell (by exact r)).trans O
  try have p3:=(d.o.cell (by exact I)).trans v
  go_wp2_with fail
  refine N _ _ ?_ λhH=>?_
  · ((try dsimp only);go_keep)
  iterate 17 refine sq ?_
  refine wdn ?_;have s:=t.o.trans ((o.o.trans (d.o.mono O0)).mono t.o.size);have C:w.heap.size+1<=w1.heap.size:=by have:=d.o.size;omega
  first|rw[hx,hy]at g|rw[hx]at g
  first
  |(have m:=step_up p g
    go_wp2;go_roundw;exact⟨_,f,by go_num,s,B,C,m⟩;exact V9)
  |(clear hH
    go_wp2;go_ret;exact⟨⟨false,rfl,by simp only[Bool.false_eq_true,false_iff];intro h;have:=h.2 _ f;rw[g.o]at this;cases this⟩,s⟩)
theorem Et{g:Nat}{is:List F2}{q:Addr}{v:Value}(h:P6 w (some ⟨g,0,none⟩) is)(c:q.block≠g):P6 (w.setCell q v) (some ⟨g,0,none⟩) is:=by
 rcases h with h|⟨b,off,h1,h2,k⟩
 ·exact .inl h
 have f:b=g:=by injection h1 with h1;injection h1 with h1 _;exact h1.symm
 have a:∀j,q≠⟨b,j,none⟩:=λj e=>c (by rw[e];exact f);refine .inr ⟨b,off,h1,by simpa using h2,λi d=>?_⟩;rw[Nb _ _ _ _ (a _),Nb _ _ _ _ (a _)];exact k i d
theorem cmp_neg:∀(a b:List UInt8),Lib.compareBytes a b<0↔Op.bytesLess a b=true
 | [],[]=>by simp[Lib.compareBytes,Op.bytesLess]
 | [],_::_=>by simp[Lib.compareBytes,Op.bytesLess]
 | _::_,[]=>by simp[Lib.compareBytes,Op.bytesLess]
 | x::a,y::b=>by
  have d:=cmp_neg a b;simp only[Lib.compareBytes,Op.bytesLess];by_cases h1:x<y
  ·simp[h1]
  by_cases h2:y<x
  ·have c:¬x=y:=λe=>by subst e;exact xK x h2
   simp[h1,h2,c]
  have c:=UInt8.le_antisymm (QE.1 h2) (QE.1 h1);subst c;simp[h1,d]
theorem nI:∀(a b:List UInt8),Lib.compareBytes a b=0↔a=b
 | [],[]=>by simp[Lib.compareBytes]
 | [],_::_=>by simp[Lib.compareBytes]
 | _::_,[]=>by simp[Lib.compareBytes]
 | x::a,y::b=>by
  have d:=nI a b;simp only[Lib.compareBytes];by_cases h1:x<y
  ·have c:¬x=y:=λe=>by subst e;exact xK x h1
   simp[h1,c]
  by_cases h2:y<x
  ·have c:¬x=y:=λe=>by subst e;exact xK x h2
   simp[h1,h2,c]
  have c:=UInt8.le_antisymm (QE.1 h2) (QE.1 h1);subst c;simp[h1,d]
def lt(a b:BY):Bool:=Op.bytesLess a.toList b.toList
def Pv(a b:BY):Int:=Lib.compareBytes a.data.toList b.data.toList
theorem mr(a b:BY):Pv a b<0↔lt a b=true:=by
 unfold Pv lt;rw[cmp_neg,ByteArray.toList_eq,ByteArray.toList_eq]
theorem Dx(a b:BY):Pv a b=0↔a=b:=by
 unfold Pv;rw[nI];exact⟨λh=>jg (Yl.1 h),λh=>by rw[h]⟩
theorem a5R(a b:BY)(w:World):
 Calls prog 277 #[Sb a,Sb b] w λe w'=>e=Sf (Sc Se (Pv a b))/\w'=w:=by
 have hrun:∀u:World,(callFunc 316 #[vS a,vS b]).run prog u=.ok (.value (vI (Pv a b))) u:=λu=>by
  rw[run_callFunc_extern func316 Y0 Y0 Y0 (e:=Extern.BytealgCompare.compare) Y0,Lib.run_compareString];rfl
 go_in
 go_wp2;go_ret;exact⟨rfl,rfl⟩
theorem c232(a b:BY)(w:World):
 Calls prog 232 #[Sb a,Sb b] w λe w'=>e=Sf (Sc Se (Pv a b))/\w'=w:=by
 go_in
 go_wp2_with fail
 refine(a5R a b _).mono ?_;rintro e w1⟨rfl,hw⟩;obtain rfl:=hw.symm;go_wp2;go_ret;exact⟨rfl,rfl⟩
theorem a2B(x:F2)(b:BY)(w:World):
 Calls prog 283 #[.agg #[Sb x.nm,Sb x.tx],Sb b] w λe w'=>e=Sf (Sc Se (Pv x.nm b))/\Bw w w':=by
 go_in
 go_wp2_with fail
 refine(c232 x.nm b _).mono ?_;rintro e w1⟨rfl,hw⟩;obtain rfl:=hw.symm;go_wp2;go_ret;exact⟨rfl,U6⟩
theorem Ju:∀(a b c:List UInt8),Op.bytesLess a b=true->Op.bytesLess b c=true->Op.bytesLess a c=true
 | _,[],_,h,_=>by simp[Op.bytesLess]at h
 | _,_::_,[],_,h=>by simp[Op.bytesLess]at h
 | [],_::_,_::_,_,_=>by simp[Op.bytesLess]
 | x::a,y::b,z::c,h,k=>by
  have d:=Ju a b c;simp only[Op.bytesLess,IJ,Fa,Pe,Yq]at h k ⊢;rcases h with h|⟨rfl,h⟩
  ·rcases k with k|⟨rfl,k⟩
   ·exact .inl (UInt8.lt_trans h k)
   exact .inl h
  rcases k with k|⟨rfl,k⟩
  ·exact .inl k
  exact .inr ⟨rfl,d h k⟩
theorem Jq:∀(a:List UInt8),Op.bytesLess a a=false
 | []=>by simp[Op.bytesLess]
 | x::a=>by simp[Op.bytesLess,Jq a]
theorem Gg{a b c:BY}(h:lt a b=true)(k:lt b c=true):lt a c=true:=Ju _ _ _ h k
theorem Xd(a:BY):lt a a=false:=Jq _
structure Place(fs:List F2)(t:BY)(p:Nat)(f:Bool):Prop where
 le:p<=fs.length
 less:∀j,j<p->lt (fs.getD j o9).nm t=true
 more:∀j,p<=j->j<fs.length->lt (fs.getD j o9).nm t=false
 here:f=true↔p<fs.length/\(fs.getD p o9).nm=t
def Asc(fs:List F2):Prop:=∀i j,i<j->j<fs.length->lt (fs.getD i o9).nm (fs.getD j o9).nm=true
def Half(fs:List F2)(t:BY)(i j:Nat):Prop:=(∀q,q<i->lt (fs.getD q o9).nm t=true)/\∀q,j<=q->q<fs.length->lt (fs.getD q o9).nm t=false
theorem mZ{fs:List F2}(hm:Asc fs)(a:Half fs t i j)(hl:h<fs.length)(hx:lt (fs.getD h o9).nm t=true):Half fs t (h+1) j:=by
 refine⟨λq hq=>?_,a.2⟩;rcases Z7 q h with h1|h1
 ·exact Gg (hm q h h1 hl) hx
 obtain rfl:q=h:=O0;exact hx
theorem MP{fs:List F2}(hm:Asc fs)(a:Half fs t i j)(hx:lt (fs.getD h o9).nm t=false):Half fs t i h:=by
 refine⟨a.1,λq hq hl=>?_⟩;rcases Z7 h q with h1|h1
 ·cases hc:lt (fs.getD q o9).nm t
  ·rfl
  rw[Gg (hm h q h1 hl) hc]at hx;cases hx
 obtain rfl:q=h:=O0;exact hx
theorem a5X(a:OA)(cap:Nat)(fs:List F2)(t:BY)(w:World)(hl:fs.length<=40)(D:P6 w a fs)(hm:Asc fs):
 Calls prog 282 #[Sa a fs.length cap,Sb t,.func (.func 283) #[] #[]] w λe w'=>(∃p f,e=Sf (.tuple #[Sc Se (p:Nat),.bool f])/\Place fs t p f)/\Bw w w':=by
 obtain⟨b,off,hc⟩:=r_ D;have B:=U0 hc;have A:=U0 hm
 go_in
 go_wp2;go_loopw[9,10] (λr o wr=>∃i j:Nat,i<=j/\j<=fs.length/\r=Sc Se i/\o=Sc Se j/\Below w.heap.size w wr/\Hid (Half fs t i j)) (λr o _=>(RowKit.intOf o).toNat-(RowKit.intOf r).toNat);exact⟨0,fs.length,Y4 _,Y7 _,rfl,rfl,O4 _ _,⟨λq h=>absurd h (U8 _),λq h k=>O0⟩⟩;obtain⟨i,j,hij,z,rfl,rfl,c,d⟩:=hrel;by_cases hlt:i<j;rotate_left
 ·obtain rfl:i=j:=O0;by_cases m:i<fs.length;rotate_left
  ·have y:Hid (Place fs t i false):=⟨O0,d.o.1,d.o.2,L8⟩;have hd:decide ((i:Int)<(fs.length:Int))=false:=j_ O0;go_wp2
   all_goals go_ret2
   all_goals exact⟨⟨i,false,rfl,y.o⟩,c⟩
  obtain⟨ha,l,g⟩:=Ud B.o m;subst ha;have g0:=(c.cell (by exact l)).trans (g i m).1;have g1:=(c.cell (by exact l)).trans (g i m).2;have y:Hid (∀f:Bool,(f=true↔(fs.getD i o9).nm=t)->Place fs t i f):=λf hf=>⟨O0,d.o.1,d.o.2,hf.trans ⟨λh=>⟨m,h⟩,λh=>h.2⟩⟩;generalize fs.getD i o9=x at*
  go_wp2_with fail
  refine(a2B x t wr).mono ?_;rintro e w1⟨rfl,v⟩;have n:=E5 c v;go_wp2
  all_goals go_ret2
  all_goals exact⟨⟨i,_,rfl,y.o _ (by rw[<- Dx];simp)⟩,n⟩
 rcases B.o with C|⟨ha,l,g⟩
 ·rw[C]at z;simp at z;omega
 subst ha;have u:(i+j) / 2<fs.length:=O0;have g0:=(c.cell (by exact l)).trans (g _ u).1;have g1:=(c.cell (by exact l)).trans (g _ u).2;have E:Hid (lt (fs.getD ((i+j) / 2) o9).nm t=true->Half fs t ((i+j) / 2+1) j):=λhx=>mZ A d u hx;have F:Hid (lt (fs.getD ((i+j) / 2) o9).nm t=false->Half fs t i ((i+j) / 2)):=λhx=>MP A d hx;generalize fs.getD ((i+j) / 2) o9=x at*
 go_wp2_with fail
 refine(a2B x t wr).mono ?_;rintro e w1⟨rfl,v⟩;have n:=E5 c v;cases hx:lt x.nm t
 ·have hc:¬Pv x.nm t<0:=λh=>by rw[(mr _ _).1 h]at hx;cases hx
  have hc1:=j_ hc;have s:=U0 (F.o hx);go_wp2;go_roundw;exact⟨i,(i+j) / 2,O0,O0,rfl,by go_num,n,s⟩;exact V9
 have hc:=(mr _ _).2 hx;have s:=U0 (E.o hx);go_wp2;go_roundw;exact⟨(i+j) / 2+1,j,O0,O0,by go_num,rfl,n,s⟩;exact V9
theorem UX(a:OA)(cap:Nat)(fs:List F2)(t:BY)(w:World)(hl:fs.length<=40)(g:P6 w a fs)(hm:Asc fs):
 Calls prog 238 #[.agg #[Sa a fs.length cap],Sb t] w λe w'=>(∃p f,e=Sf (.tuple #[Sc Se (p:Nat),.bool f])/\Place fs t p f)/\Bw w w':=by
 have j:=U0 g;have i:=U0 hm;have b:Bw w (w.alloc (Sg #[vL a fs.length cap] 40)):=U6
 go_in
 go_wp2_with fail
 refine(a5X a cap fs t _ hl (J5 j b) i).mono ?_;rintro e w1⟨⟨p,f,rfl,c⟩,d⟩;have h:=U0 c;go_wp2;go_ret2;exact⟨⟨p,f,rfl,h⟩,E5 b d⟩
theorem Yh{fs:List F2}(h:G_ fs):Asc fs:=by
 have b:∀j,j+1<fs.length->lt (fs.getD j o9).nm (fs.getD (j+1) o9).nm=true:=λj a=>by
  have:=h.2 (j+1) a;unfold bg at this;simp only[Fa,IJ,Pe]at this;rcases this.2 with h|h
  ·omega
  exact h
 intro i j hij
 induction j with
 | zero=>omega
 | succ j ih=>
  intro a;rcases Z7 i j with h1|h1
  ·exact Gg (ih h1 O0) (b j a)
  obtain rfl:i=j:=O0;exact b i a
theorem a1H(a:OA)(cap:Nat)(fs:List F2)(nm:BY)(w:World)(hl:fs.length<=1048576)(l:P6 w a fs):
 Calls prog 207 #[.agg #[Sa a fs.length cap],Sb nm] w λe w'=>(∃r:Int,e=Sf (Sc Se r)/\((r=-1/\∀i,i<fs.length->(fs.getD i o9).nm≠nm)\/∃i:Nat,r=i/\i<fs.length/\(fs.getD i o9).nm=nm))/\Bw w w':=by
 obtain⟨b,off,hc⟩:=r_ l;have s:=U0 hc;have d:Bw w (w.alloc (Sg #[vL a fs.length cap] 40)):=U6;clear hc l
 go_in
 go_wp2;go_loop[5] (λi=>∃k:Nat,k<=fs.length/\i=Sc Se k/\Hid (∀j,j<k->(fs.getD j o9).nm≠nm)) (λi=>fs.length-(RowKit.intOf i).toNat);exact⟨0,Y4 _,rfl,λj h=>absurd h (U8 _)⟩;obtain⟨k,hk,rfl,f⟩:=hrel;by_cases c:k<fs.length;rotate_left
 ·go_wp2;go_ret;exact⟨⟨-1,rfl,.inl ⟨rfl,λi hi=>f.o i O0⟩⟩,d⟩
 obtain⟨ha,p,g⟩:=Ud s.o c;subst ha;have g0:=(d.cell (by exact p)).trans (g k c).1;have n:Hid (∃x,x=fs.getD k o9):=⟨_,rfl⟩;obtain⟨x,hx⟩:=n.o;rw[<- hx]at g0;have m:=U0 hx;clear g hx n;cases hq:(x.nm.toList==nm.toList)
 ·have o:Hid (∀j,j<k+1->(fs.getD j o9).nm≠nm):=λj hj=>by
   rcases Z7 j k with h|h
   ·exact f.o j h
   obtain rfl:j=k:=O0;rw[<- m.o];intro e;rw[e]at hq;simp at hq
  go_wp2
  go_round
  exact⟨k+1,O0,by go_num,o⟩;exact V9
 have he:x.nm=nm:=by
  have:=Yq.1 hq;rw[ByteArray.toList_eq,ByteArray.toList_eq]at this;exact jg (Yl.1 this)
 have q:Hid (∃i:Nat,(k:Int)=i/\i<fs.length/\(fs.getD i o9).nm=nm):=⟨k,rfl,c,by rw[<- m.o];exact he⟩;clear he;go_wp2;go_ret;exact⟨⟨_,rfl,.inr q.o⟩,d⟩
