import Derived.Test.YtkccjgajimjjdaaGreatDoorK4
import Derived.Maps.OwnRows
import Derived.Shelf.Strings.Split
import Derived.Shelf.Small.Strs
import Derived.Test.YtkccjgajimjjdaaGreatDooreP2
set_option linter.unusedVariables false
set_option maxRecDepth 100000
namespace Go.Proofs.YtkccjgajimjjdaaGreatDoor
open Proofs.Tryz Go.RowKit Go.Maps
variable{k:BY}{w w':World}{R:Value->Option (DataW Value×List MemPlace)}{B H N b bP bR bT n:Nat}{D:DataW Value}{v z:Value}{l pl:List (ByteArray×Value)}{e t:TypeId}{rv vs:List Value}{ops:Array Oper}{o:Oper}{a:Act}{K:Act->World->Prop}{Q:Exit->Act->World->Prop}{E:Prop}{row:Option Nat}{W:Int}{rs:List R3}{zs:List Int}
theorem zy:Keyed prog 9:=string_keyed underlying9
theorem a1U:Keyed prog 3:=int_keyed underlying3
theorem keyS(h:k.size<=maxLen):keyOf prog 9 (.string k)=some (kS k):=Go.WideMaps.keyOf_string_mk underlying9 h
theorem a2O{i:Nat}(h:i<=1048576):keyOf prog 3 (.int .i64 i)=some (.int .i64 i):=keyOf_int_mk underlying3 (WalkArith.wf_i64 O0)
theorem Jk{k:TypeId}(h:w.ownsMap prog k R b n D):w.ownsMap prog k R b (Maps.size D) D:=by
 obtain⟨es,d,c,F,hs,a⟩:=h;refine⟨es,d,c,F,?_,a⟩;rw[a,size_eq,length_sorted];simp
theorem Xd{k:TypeId}(h:w.ownsMap prog k R b n D)(c:Below N w w')(d:b<N):w'.ownsMap prog k R b n D:=by
 obtain⟨es,e,a,r⟩:=h;exact⟨es,e,(c.block b d).trans a,r⟩
theorem Ii{k:TypeId}(h:w.ownsMap prog k R b n D):∃es a,w.heap[b]?=some (.map es a):=by
 obtain⟨es,a,c,r⟩:=h;exact⟨es,a,c⟩
theorem QF{d:DataW Value}{ps:List MemPlace}(h:Ub v=some (d,ps)):d=.held v:=by
 unfold Ub at h;simp only[iw,KJ]at h;exact h.1.symm
theorem rD(h:w.ownsMap prog 9 Ub b n (mapD l))(ht:prog.underlying t=some (.map 9 e))(hz:(zeroValue e).run prog w=.ok z w)(a:k.size<=maxLen):
 (Instr.lookup t (.map (some b)) (.string k) true).run prog w=.ok (.tuple #[(Ya l k).getD z,.bool (Ya l k).isSome]) w:=by
 obtain⟨v,ps,hr,hv⟩:=h.look_ok zy ht hz (zd:=.held z) (zp:=[]) rfl (keyS a);have hd:=QF hv;rw[yL]at hd;rw[JQ]at hr;rw[hr]
 cases hg:Ya l k with
 | none=>rw[hg]at hd;simp at hd;rw[hd];rfl
 | some u=>rw[hg]at hd;simp at hd;rw[hd];rfl
theorem mJ(h:w.ownsMap prog 9 Ub b n (mapD l))(ht:prog.underlying t=some (.map 9 e))(hz:(zeroValue e).run prog w=.ok z w)(a:k.size<=maxLen):
 (Instr.lookup t (.map (some b)) (.string k) false).run prog w=.ok ((Ya l k).getD z) w:=by
 obtain⟨v,ps,hr,hv⟩:=h.lookup zy ht hz (zd:=.held z) (zp:=[]) rfl (keyS a);have hd:=QF hv;rw[yL]at hd;rw[hr]
 cases hg:Ya l k with
 | none=>rw[hg]at hd;simp at hd;rw[hd];rfl
 | some u=>rw[hg]at hd;simp at hd;rw[hd];rfl
theorem KQ{k:Nat}(h:w.ownsMap prog 3 Ub b n (intD vs))(ht:prog.underlying t=some (.map 3 e))(hz:(zeroValue e).run prog w=.ok z w)(c:k<=1048576)(a:k<vs.length):
 (Instr.lookup t (.map (some b)) (.int .i64 k) false).run prog w=.ok (vs.getD k undef) w:=by
 obtain⟨v,ps,hr,hv⟩:=h.lookup a1U ht hz (zd:=.held z) (zp:=[]) rfl (a2O c);have hd:=QF hv;rw[ZX,L8 a]at hd;simp at hd;rw[hr,Sj,hd]
theorem a4R(h:w.ownsMap prog 9 Ub b n (mapD l))(ht:prog.underlying t=some (.map 9 e))(a:n<maxLen)(c:k.size<=maxLen):
 ∃w',(Instr.mapUpdate t (.map (some b)) (.string k) v).run prog w=.ok () w'/\w'.ownsMap prog 9 Ub b (n+1) ((mapD l).put (kS k) (.held v))/\w.grownBy w' (some b):=
 h.update zy ht a (keyS c) (d:=.held v) (ps:=[]) rfl
theorem a3v(h:w.ownsMap prog 3 Ub b n (intD vs))(ht:prog.underlying t=some (.map 3 e))(c:n<maxLen)(f:vs.length<=1048576):
 ∃w',(Instr.mapUpdate t (.map (some b)) (.int .i64 vs.length) v).run prog w=.ok () w'/\w'.ownsMap prog 3 Ub b (vs++[v]).length (intD (vs++[v]))/\w.grownBy w' (some b):=by
 obtain⟨w',h1,h2,g⟩:=h.update a1U ht c (a2O f) (d:=.held v) (ps:=[]) rfl;rw[dQ]at h2;have a:=Jk h2;rw[Om]at a;exact⟨w',h1,a,g⟩
theorem OT(i:o.guard=none)(t:TypeId)(m x v:Operand)(ho:o.op=Op.mapUpdate t m x v){b n:Nat}{vs:List Value}{e:TypeId}{vv:Value}
 (hm:a.eval m=.map (some b)) (hx:a.eval x=.int .i64 vs.length) (hv:a.eval v=vv) (h:w.ownsMap prog 3 Ub b n (intD vs)) (ht:prog.underlying t=some (.map 3 e)) (f:n<maxLen) (g:vs.length<=1048576) (d:o.dst=none)
 (j:∀w',w'.ownsMap prog 3 Ub b (vs++[vv]).length (intD (vs++[vv]))->w.grownBy w' (some b)->K a w'):
 if Region.wanted o (yielded ops a.tmps)=true then Oper.wp prog o a w K Q else E:=by
 have hw:Region.wanted o (yielded ops a.tmps)=true:=by simp[Region.wanted,i]
 rw[L8 hw];obtain⟨w',hr,h1,h2⟩:=a3v (v:=vv) h ht f g;have c:=j w' h1 h2;unfold Oper.wp;simp[execOp,ho,hm,hx,hv,hr,Result.andThen]
 first
  | exact c
  | (simp only[Oper.upon];exact c)
  | (simp only[Oper.upon,d];exact c)
  | (simp only[Act.put,d];exact c)
theorem AA(i:o.guard=none)(t:TypeId)(m x v:Operand)(ho:o.op=Op.mapUpdate t m x v){b n:Nat}{l:List (ByteArray×Value)}{k:BY}{e:TypeId}{vv:Value}
 (hm:a.eval m=.map (some b)) (hx:a.eval x=.string k) (hv:a.eval v=vv) (h:w.ownsMap prog 9 Ub b n (mapD l)) (ht:prog.underlying t=some (.map 9 e)) (f:n<maxLen) (g:k.size<=maxLen) (d:o.dst=none)
 (j:∀w',w'.ownsMap prog 9 Ub b (n+1) ((mapD l).put (kS k) (.held vv))->w.grownBy w' (some b)->K a w'):
 if Region.wanted o (yielded ops a.tmps)=true then Oper.wp prog o a w K Q else E:=by
 have hw:Region.wanted o (yielded ops a.tmps)=true:=by simp[Region.wanted,i]
 rw[L8 hw];obtain⟨w',hr,h1,h2⟩:=a4R (v:=vv) h ht f g;have c:=j w' h1 h2;unfold Oper.wp;simp[execOp,ho,hm,hx,hv,hr,Result.andThen]
 first
  | exact c
  | (simp only[Oper.upon];exact c)
  | (simp only[Oper.upon,d];exact c)
  | (simp only[Act.put,d];exact c)
def qC(B:Nat)(w:World)(v:Value)(x:R3):Prop:=∃a c,v=.agg #[.string x.key,.slice a x.gs.length c,.string x.out]/\R_ w a x.gs/\(x.gs=[]\/∃b off,a=some ⟨b,off,none⟩/\(b<B\/∃cur fr,w.heap[b]?=some (.cells cur 213 fr)))
def YK(B:Nat)(w:World)(row:Option Nat):Prop:=∀j,row=some j->B<=j/\∀cur fr,w.heap[j]?≠some (.cells cur 213 fr)
theorem qC.kept{x:R3}(h:qC B w v x)(m:w.grownBy w' row)(hr:YK B w row):qC B w' v x:=by
 obtain⟨a,c,hv,q,p⟩:=h;rcases p with f|⟨b,off,ha,d⟩
 ·exact⟨a,c,hv,.inl f,.inl f⟩
 rcases q with f|⟨b',k,j,l,hc⟩
 ·exact⟨a,c,hv,.inl f,.inl f⟩
 obtain⟨rfl,rfl⟩:b'=b/\k=off:=by rw[ha]at j;simp at j;exact⟨j.1.symm,j.2.symm⟩
 have n:some b'≠row:=λe=>by
  have:=hr b' e.symm;rcases d with d|⟨cur,fr,d⟩
  ·omega
  exact this.2 cur fr d
 have g:=m.block b' l n;refine⟨a,c,hv,.inr ⟨b',k,ha,U9 l m.size,λi o=>?_⟩,.inr ⟨b',k,ha,?_⟩⟩
 ·obtain⟨h0,h1,h2⟩:=hc i o;refine⟨?_,?_,?_⟩
  ·rw[<- h0];simp only[World.cell?,g]
  ·rw[<- h1];simp only[World.cell?,g]
  rw[<- h2];simp only[World.cell?,g]
 rcases d with d|⟨cur,fr,d⟩
 ·exact .inl d
 exact .inr ⟨cur,fr,g.trans d⟩
def gy(rs:List R3)(k:BY):List Int:=((List.range rs.length).filter λi=>decide ((rs.getD i h_).key=k)).map λi:Nat=>(i:Int)
theorem gI(rs:List R3)(x:R3)(k:BY):gy (rs++[x]) k=gy rs k++if x.key=k then [(rs.length:Int)] else []:=by
 unfold gy;rw[P9,Oj,Uy,Zu,Rk]
 congr 1
 ·congr 1
  apply List.filter_congr;intro i a;have:=Ip.1 a;have e:(rs++[x]).getD i h_=rs.getD i h_:=by simp[List.getD,G_ this]
  rw[e]
 by_cases h:x.key=k<;>simp[List.getD,h]
theorem SE(rs:List R3)(k:BY):(gy rs k).length<=rs.length:=by
 unfold gy;rw[Cf];exact I8 (WJ _ _) E5
def Ah(w:World)(b:Nat)(t:TypeId):Prop:=∃cur fr,w.heap[b]?=some (.cells cur t fr)
theorem Ah.below(h:Ah w b t)(a:Below N w w')(c:b<N):Ah w' b t:=by
 obtain⟨cur,fr,h⟩:=h;exact⟨cur,fr,(a.block b c).trans h⟩
theorem Ah.kept(h:Ah w b t)(c:w.grownBy w' row)(a:some b≠row):Ah w' b t:=by
 obtain⟨cur,fr,h⟩:=h;exact⟨cur,fr,(c.block b (Eb.1 h).1 a).trans h⟩
theorem wM(w:World)(a:Array Value)(t:TypeId):Ah (w.alloc (.cells a t)) w.heap.size t:=⟨a,(0,0),(MapKept.heap_alloc w _).1⟩
structure XB(B H bT bR bP:Nat)(W:Int)(l:List (ByteArray×Value))(rv:List Value)(pl:List (ByteArray×Value))(w:World):Prop where
 hH:B<=H
 hT:B<=bT
 hR:B<=bR
 hP:B<=bP
 lt:H<w.heap.size
 n1:bT≠bR
 n2:bT≠bP
 n3:bR≠bP
 blk:U6 w H [.int .i64 W,.map (some bT),.map (some bR),.map (some bP)]
 tx:w.ownsMap prog 9 Ub bT l.length (mapD l)
 ta:Asc l
 rc:w.ownsMap prog 3 Ub bR rv.length (intD rv)
 pc:w.ownsMap prog 9 Ub bP pl.length (mapD pl)
 pa:Asc pl
 ty:Ah w H 236
structure ShR(B:Nat)(rs:List R3)(rv:List Value)(pl:List (ByteArray×Value))(w:World):Prop where
 len:rv.length=rs.length
 recs:∀i,i<rs.length->qC B w (rv.getD i undef) (rs.getD i h_)
 grp:∀k v,Ya pl k=some v->w.ownsInts B 3 .i64 v (gy rs k)
 non:∀k,Ya pl k=none->gy rs k=[]
 apart:∀k k' v v',k≠k'->Ya pl k=some v->Ya pl k'=some v'->v.ownBlock=none\/v.ownBlock≠v'.ownBlock
 pln:pl.length<=rs.length
theorem yh(h:w.cell? ⟨H,0,none⟩=some v){es:Array MapEntry}{c:Nat}(hm:w.heap[b]?=some (.map es c)):H≠b:=λe=>by
 subst e;simp[World.cell?,hm]at h
theorem N_(a:w.grownBy w' row)(hr:∀j,row=some j->N<=j)(hN:N<=w.heap.size):Below N w w':=
 ⟨a.os,a.tape,a.output,a.size,λk hk=>a.block k O0 (λe=>by have:=hr k e.symm;omega)⟩
theorem Yf(h:Bw w w'):w.grownBy w' none:=⟨h.os,h.tape,h.output,h.size,λk a _=>h.block k a⟩
theorem Ob(h:U6 w H vs)(c:w.grownBy w' row)(b:H<w.heap.size)(a:some H≠row):U6 w' H vs:=λj v e=>by
 have:=h j v e;simp only[World.cell?,c.block H b a];simpa only[World.cell?]using this
theorem XB.kept(h:XB B H bT bR bP W l rv pl w)(a:w.grownBy w' row)(a1:some H≠row)(a2:some bT≠row)(c:some bR≠row)(b:some bP≠row):XB B H bT bR bP W l rv pl w':=
 ⟨h.hH,h.hT,h.hR,h.hP,U9 h.lt a.size,h.n1,h.n2,h.n3,Ob h.blk a h.lt a1,h.tx.kept a a2,h.ta,h.rc.kept a c,h.pc.kept a b,h.pa,h.ty.kept a a1⟩
theorem ShR.kept(h:ShR B rs rv pl w)(a:w.grownBy w' row)(hr:YK B w row)(b:∀k v,Ya pl k=some v->v.ownBlock=none\/v.ownBlock≠row):ShR B rs rv pl w':=
 ⟨h.len,λi hl=>(h.recs i hl).kept a hr,λk v e=>(h.grp k v e).kept a (b k v e),h.non,h.apart,h.pln⟩
theorem qh(h:w.ownsInts B 3 .i64 v zs){j:Nat}(a:v.ownBlock=some j):B<=j/\j<w.heap.size/\∃cur,w.heap[j]?=some (.cells cur 3 (0,0)):=by
 rcases h.1.2 with⟨rfl,_⟩|⟨g,cap,cur,rfl,c,b,_⟩
 ·simp[Value.ownBlock]at a
 simp[Value.ownBlock]at a;subst a;exact⟨c,(Eb.1 b).1,cur,b⟩
theorem ShR.below(h:ShR B rs rv pl w)(a:Bw w w'):ShR B rs rv pl w':=
 h.kept (Yf a) (λ_ e=>by cases e) (λk v e=>by
  cases hq:v.ownBlock with
  | none=>exact .inl rfl
  | some j=>exact .inr E5)
theorem XB.below(h:XB B H bT bR bP W l rv pl w)(a:Bw w w'):XB B H bT bR bP W l rv pl w':=
 h.kept (Yf a) E5 E5 E5 E5
theorem ShR.map(h:ShR B rs rv pl w)(a:w.grownBy w' (some b))(hB:B<=b){es:Array MapEntry}{c:Nat}(hm:w.heap[b]?=some (.map es c)):ShR B rs rv pl w':=
 h.kept a (λj e=>by cases e;exact⟨hB,λcur fr e=>by rw[hm]at e;simp at e⟩) (λk v e=>by
  cases hq:v.ownBlock with
  | none=>exact .inl rfl
  | some j=>
   refine .inr λd=>?_;obtain⟨_,_,cur,hc⟩:=qh (h.grp k v e) hq;cases d;rw[hm]at hc;simp at hc)
theorem vz(ha:Asc l)(k:BY)(v:Value):Asc (oh (k,v) (l.filter λp=>!decide (p.1=k)))/\∀k',Ya (oh (k,v) (l.filter λp=>!decide (p.1=k))) k'=if k'=k then some v else Ya l k':=by
 have hf:Asc (l.filter λp=>!decide (p.1=k)):=ha.filter _;have hA:Asc (oh (k,v) (l.filter λp=>!decide (p.1=k))):=ou hf (λp a=>by have:=(Iq.1 a).2;simpa using this);refine⟨hA,λk'=>?_⟩;have b:∀p,p∈oh (k,v) (l.filter λp=>!decide (p.1=k))↔p=(k,v)\/(p∈l/\p.1≠k):=λp=>by
  rw[(Ce _ _).mem_iff,Xe,Iq];simp
 by_cases h:k'=k
 ·subst h;rw[L8 rfl];exact Wp hA ((b _).2 (.inl rfl))
 rw[Y7 h]
 cases hq:Ya l k' with
 | none=>
  exact Fb.2 (λp a=>by
   rcases(b p).1 a with rfl|⟨a,_⟩
   ·exact λe=>h e.symm
   exact Fb.1 hq p a)
 | some u=>exact Wp hA ((b _).2 (.inr ⟨Kz hq,h⟩))
theorem zD(l:List (ByteArray×Value))(k:BY)(v:Value):(mapD l).put (kS k) (.held v)=mapD (oh (k,v) (l.filter λp=>!decide (p.1=k))):=by
 show DataW.map (DataW.insert (eS (k,v)) ((l.map eS).filter λp=>!p.1.sameKey (kS k)))=DataW.map ((oh (k,v) _).map eS);rw[ML,List.filter_map]
 congr 2
 congr 1
 apply List.filter_congr;intro p _;show(!(kS p.1).sameKey (kS k))=_;rw[Oy]
def KF(w w':World):Prop:=∀q t,Ah w q t->t≠3->w'.heap[q]?=w.heap[q]?
theorem KF.trans{u v:World}(h:KF w u)(g:KF u v):KF w v:=λq t hT ht=>by
 have e:=h q t hT ht;obtain⟨cs,fr,a⟩:=hT;exact(g q t ⟨cs,fr,e.trans a⟩ ht).trans e
theorem Zd(h:Below N w w')(hN:w.heap.size<=N):KF w w':=λq t hT _=>h.block q (by obtain⟨cs,fr,a⟩:=hT;have:=(Eb.1 a).1;omega)
theorem QA{c:Nat}{es:Array MapEntry}(d:w.grownBy w' (some b))(hm:w.heap[b]?=some (.map es c)):KF w w':=λq t hT _=>by
 obtain⟨cs,fr,a⟩:=hT;refine d.block q (Eb.1 a).1 λe=>?_;obtain rfl:=I_ e;rw[hm]at a;cases a
theorem iL(b:w.grownBy w' v.ownBlock)(h:w.ownsInts B 3 .i64 v zs):KF w w':=λq t hT ht=>by
 obtain⟨cs,fr,a⟩:=hT;refine b.block q (Eb.1 a).1 λe=>?_;obtain⟨_,_,cur,hc⟩:=qh h e.symm;rw[a]at hc;injection hc with hc;injection hc with _ hc _;exact ht hc
end Go.Proofs.YtkccjgajimjjdaaGreatDoor
namespace Go.Proofs
open Go.Shelf
def Tryz.QH:Go.Shelf.Ren:=⟨λ| 137=>302|217=>315|266=>344|n=>n, λ| 9=>9|5=>5|3=>3|n=>n, λ| n=>n⟩
theorem Tryz.lays137:Go.Proofs.Lays.n137 prog Tryz.QH:={
 mixed:=Y1
 f137:=func302.trans (l7 some Y1)
 f217:=func315.trans (l7 some Y1)
 f266:=func344.trans (l7 some Y1)
 t3:=underlying3
 a3:=Tryz.isAgg3
 z3:=Tryz.sizeOf3
 v3:=Tryz.zeroValue3
 t5:=underlying5
 a5:=Tryz.isAgg5
 z5:=Tryz.sizeOf5
 v5:=Tryz.zeroValue5
 t9:=underlying9
 a9:=Tryz.isAgg9
 z9:=Tryz.sizeOf9
 v9:=Tryz.zeroValue9 }
theorem Tryz.strings_IndexByte(s:BY)(c:Int)(w:World):
 Calls prog 302 #[.string s,.int .u8 c] w λe w'=>e=.returned (.int .i64 (Lib.indexByte s.data.toList c.toNat.toUInt8))/\w'=w:=Any.strings_IndexByte Tryz.lays137 s c w
def Tryz.lays147_ren:Go.Shelf.Ren:=⟨λ| 147=>289|221=>264|268=>299|138=>246|143=>288|195=>286|197=>319|218=>287|219=>297|260=>346|217=>315|225=>316|224=>317|267=>318|266=>344|314=>345|n=>n, λ| 9=>9|3=>3|31=>22|4=>4|0=>0|105=>397|21=>21|5=>5|46=>314|119=>428|139=>431|138=>430|146=>359|51=>358|n=>n, λ| 1=>5|3=>12|4=>13|n=>n⟩
theorem Tryz.lays147:Go.Proofs.Lays.n147 prog Tryz.lays147_ren:={
 mixed:=Y1
 f138:=func246.trans (l7 some Y1)
 f143:=func288.trans (l7 some Y1)
 f147:=func289.trans (l7 some Y1)
 f195:=func286.trans (l7 some Y1)
 f197:=func319.trans (l7 some Y1)
 f217:=func315.trans (l7 some Y1)
 f218:=func287.trans (l7 some Y1)
 f219:=func297.trans (l7 some Y1)
 f221:=func264.trans (l7 some Y1)
 f224:=func317.trans (l7 some Y1)
 f225:=func316.trans (l7 some Y1)
 f260:=func346.trans (l7 some Y1)
 f266:=func344.trans (l7 some Y1)
 f267:=func318.trans (l7 some Y1)
 f268:=func299.trans (l7 some Y1)
 f314:=func345.trans (l7 some Y1)
 t0:=underlying0
 a0:=Tryz.isAgg0
 z0:=Tryz.sizeOf0
 v0:=Tryz.zeroValue0
 t3:=underlying3
 a3:=Tryz.isAgg3
 z3:=Tryz.sizeOf3
 v3:=Tryz.zeroValue3
 t4:=underlying4
 a4:=Tryz.isAgg4
 z4:=Tryz.sizeOf4
 v4:=Tryz.zeroValue4
 t5:=underlying5
 a5:=Tryz.isAgg5
 z5:=Tryz.sizeOf5
 v5:=Tryz.zeroValue5
 t9:=underlying9
 a9:=Tryz.isAgg9
 z9:=Tryz.sizeOf9
 v9:=Tryz.zeroValue9
 t21:=underlying21
 a21:=Tryz.isAgg21
 z21:=Tryz.sizeOf21
 v21:=Tryz.zeroValue21
 t31:=underlying22
 a31:=Tryz.isAgg22
 z31:=Tryz.sizeOf22
 v31:=Tryz.zeroValue22
 t46:=underlying314
 a46:=Tryz.isAgg314
 z46:=Tryz.sizeOf314
 v46:=Tryz.zeroValue314
 t51:=underlying358
 a51:=Tryz.isAgg358
 z51:=Tryz.sizeOf358
 v51:=Tryz.zeroValue358
 t105:=underlying397
 a105:=Tryz.isAgg397
 z105:=Tryz.sizeOf397
 v105:=Tryz.zeroValue397
 t119:=underlying428
 a119:=Tryz.isAgg428
 z119:=Tryz.sizeOf428
 t138:=underlying430
 a138:=Tryz.isAgg430
 z138:=Tryz.sizeOf430
 v138:=Tryz.zeroValue430
 t139:=underlying431
 a139:=Tryz.isAgg431
 z139:=Tryz.sizeOf431
 v139:=Tryz.zeroValue431
 t146:=underlying359
 a146:=Tryz.isAgg359
 z146:=Tryz.sizeOf359
 v146:=Tryz.zeroValue359
 g1:=Y1
 g3:=Y1
 g4:=by kernel_rfl }
theorem Tryz.strings_SplitN(s a:BY)(n:Nat)(m:Int)(w:World)(b:s.size<4294967281)(hm:w.cell? ⟨5,0,none⟩=some (.int .i64 m))(h1:1<=a.size)(d:1<=n)(c:n<=9223372036854775807):
 Calls prog 289 #[.string s,.string a,.int .i64 n] w λe w'=>
  e=.returned (.slice (some ⟨w.heap.size,0,none⟩) (Lib.splitB a 0 (min n (s.size+1)-1) s).length (min n (s.size+1)))/\w'=w.alloc (.cells (Lib.cellsOf (Lib.splitB a 0 (min n (s.size+1)-1) s) (min n (s.size+1))) 9):=Any.strings_SplitN Tryz.lays147 Y1 s a n m w b hm h1 d c
def Tryz.lays146_ren:Go.Shelf.Ren:=⟨λ| 146=>226|221=>264|268=>299|138=>246|143=>288|195=>286|197=>319|218=>287|219=>297|260=>346|217=>315|225=>316|224=>317|267=>318|266=>344|314=>345|n=>n, λ| 9=>9|3=>3|31=>22|4=>4|0=>0|105=>397|21=>21|5=>5|46=>314|119=>428|139=>431|138=>430|146=>359|51=>358|n=>n, λ| 1=>5|3=>12|4=>13|n=>n⟩
theorem Tryz.lays146:Go.Proofs.Lays.n146 prog Tryz.lays146_ren:={
 mixed:=Y1
 f138:=func246.trans (l7 some Y1)
 f143:=func288.trans (l7 some Y1)
 f146:=func226.trans (l7 some Y1)
 f195:=func286.trans (l7 some Y1)
 f197:=func319.trans (l7 some Y1)
 f217:=func315.trans (l7 some Y1)
 f218:=func287.trans (l7 some Y1)
 f219:=func297.trans (l7 some Y1)
 f221:=func264.trans (l7 some Y1)
 f224:=func317.trans (l7 some Y1)
 f225:=func316.trans (l7 some Y1)
 f260:=func346.trans (l7 some Y1)
 f266:=func344.trans (l7 some Y1)
 f267:=func318.trans (l7 some Y1)
 f268:=func299.trans (l7 some Y1)
 f314:=func345.trans (l7 some Y1)
 t0:=underlying0
 a0:=Tryz.isAgg0
 z0:=Tryz.sizeOf0
 v0:=Tryz.zeroValue0
 t3:=underlying3
 a3:=Tryz.isAgg3
 z3:=Tryz.sizeOf3
 v3:=Tryz.zeroValue3
 t4:=underlying4
 a4:=Tryz.isAgg4
 z4:=Tryz.sizeOf4
 v4:=Tryz.zeroValue4
 t5:=underlying5
 a5:=Tryz.isAgg5
 z5:=Tryz.sizeOf5
 v5:=Tryz.zeroValue5
 t9:=underlying9
 a9:=Tryz.isAgg9
 z9:=Tryz.sizeOf9
 v9:=Tryz.zeroValue9
 t21:=underlying21
 a21:=Tryz.isAgg21
 z21:=Tryz.sizeOf21
 v21:=Tryz.zeroValue21
 t31:=underlying22
 a31:=Tryz.isAgg22
 z31:=Tryz.sizeOf22
 v31:=Tryz.zeroValue22
 t46:=underlying314
 a46:=Tryz.isAgg314
 z46:=Tryz.sizeOf314
 v46:=Tryz.zeroValue314
 t51:=underlying358
 a51:=Tryz.isAgg358
 z51:=Tryz.sizeOf358
 v51:=Tryz.zeroValue358
 t105:=underlying397
 a105:=Tryz.isAgg397
 z105:=Tryz.sizeOf397
 v105:=Tryz.zeroValue397
 t119:=underlying428
 a119:=Tryz.isAgg428
 z119:=Tryz.sizeOf428
 t138:=underlying430
 a138:=Tryz.isAgg430
 z138:=Tryz.sizeOf430
 v138:=Tryz.zeroValue430
 t139:=underlying431
 a139:=Tryz.isAgg431
 z139:=Tryz.sizeOf431
 v139:=Tryz.zeroValue431
 t146:=underlying359
 a146:=Tryz.isAgg359
 z146:=Tryz.sizeOf359
 v146:=Tryz.zeroValue359
 g1:=Y1
 g3:=Y1
 g4:=by kernel_rfl }
theorem Tryz.strings_Split(s a:BY)(m:Int)(w:World)(b:s.size<4294967281)(hm:w.cell? ⟨5,0,none⟩=some (.int .i64 m))(h1:1<=a.size):
 Calls prog 226 #[.string s,.string a] w λe w'=>
  e=.returned (.slice (some ⟨w.heap.size,0,none⟩) (Lib.countB s a+1) (Lib.countB s a+1))/\w'=w.alloc (.cells ((Lib.splitB a 0 (Lib.countB s a) s).map Value.string).toArray 9):=Any.strings_Split Tryz.lays146 Y1 s a m w b hm h1
end Go.Proofs
namespace Go.Proofs.YtkccjgajimjjdaaGreatDoor
open Proofs.Tryz Go.RowKit
def lookW(h:Bool):BY:=if h then⟨#[104,97,115]⟩ else⟨#[97,115,107]⟩
