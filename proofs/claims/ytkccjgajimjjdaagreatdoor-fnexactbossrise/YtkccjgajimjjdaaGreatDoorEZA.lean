import Derived.Test.YtkccjgajimjjdaaGreatDoorEP3
import Derived.Laws.Rows
import Derived.Laws.IdiomCopy
import Derived.Deep.RegionLaw
import Derived.Deep.RegionHeld3
import Derived.Laws.Cover1
set_option linter.unusedVariables false
set_option maxRecDepth 100000
set_option maxHeartbeats 8000000
namespace Go.Proofs.YtkccjgajimjjdaaGreatDoor
open Proofs.Tryz Go.RowKit
variable{u u':World}{B B' N:Nat}{vs:List Value}
def U6(u:World)(B:Nat)(vs:List Value):Prop:=∀j v,vs[j]?=some v->u.cell? ⟨B,j,none⟩=some v
def H9(u:World)(B:Nat):Prop:=∀j,u.frozen? ⟨B,j,none⟩=false
theorem a_(w:World)(vs:List Value)(t:TypeId):U6 (w.alloc (.cells vs.toArray t)) w.heap.size vs:=λj v h=>by
 simp[go_sem,h]
theorem jg(w:World)(a:Array Value)(t:TypeId):H9 (w.alloc (.cells a t)) w.heap.size:=λj=>by simp[go_sem]
theorem U6.below(h:U6 u B vs)(a:Below N u u')(b:B<N):U6 u' B vs:=λj v e=>(a.cell (by exact b)).trans (h j v e)
theorem H9.below(h:H9 u B)(a:Below N u u')(b:B<N):H9 u' B:=λj=>(a.frozen (p:=⟨B,j,none⟩) b).trans (h j)
theorem U6.set(h:U6 u B vs)(j:Nat)(v:Value)(b:j<vs.length):U6 (u.setCell ⟨B,j,none⟩ v) B (vs.set j v):=λi x e=>by
 rcases Nat.decEq i j with a|rfl
 ·rw[Xb _ _ _ _ (Pe (λe=>a e.symm))];rw[H_ (λh=>a h.symm)]at e;exact h i x e
 rw[Po b]at e;obtain rfl:=I_ e;exact Pg _ _ _ (h i _ (L9 b))
theorem U6.other(h:U6 u B vs)(p:Addr)(v:Value)(a:p.block≠B):U6 (u.setCell p v) B vs:=λi x e=>by
 rw[Xb _ _ _ _ (λh=>a (by rw[h]))];exact h i x e
theorem H9.set(h:H9 u B)(p:Addr)(v:Value):H9 (u.setCell p v) B:=λj=>by simpa using h j
def fill(u:World)(B:Nat):Nat->List Value->World
 | _,[]=>u
 | j,v::vs=>fill (u.setCell ⟨B,j,none⟩ v) B (j+1) vs
theorem U6.fill(vs:List Value):∀{u:World}(pre old post:List Value)(j:Nat),U6 u B (pre++old++post)->old.length=vs.length->j=pre.length->U6 (fill u B j vs) B (pre++vs++post):=by
 induction vs with
 | nil=>intro u pre old post j h hl _;obtain rfl:old=[]:=Qb.1 hl;exact h
 | cons v vs ih=>
  intro u pre old post j h hl a
  match old,hl with
  | o::old,hl=>
   subst a;have h1:=h.set pre.length v E5;have e:(pre++(o::old)++post).set pre.length v=(pre++[v])++old++post:=E5;rw[e]at h1;have:=ih (pre++[v]) old post (pre.length+1) h1 (by simpa using hl) E5;have b:pre++[v]++vs++post=pre++(v::vs)++post:=E5;rw[b]at this;exact this
theorem U6.ZY(a:B≠B')(vs:List Value):∀{u:World}{xs:List Value}(j:Nat),U6 u B' xs->U6 (Go.Proofs.YtkccjgajimjjdaaGreatDoor.fill u B j vs) B' xs:=by
 induction vs with
 | nil=>intro u xs j h;exact h
 | cons v vs ih=>intro u xs j h;exact ih (j+1) (h.other (aA B j) v a)
theorem H9.fill(vs:List Value):∀{u:World}(j:Nat),H9 u B'->H9 (Go.Proofs.YtkccjgajimjjdaaGreatDoor.fill u B j vs) B':=by
 induction vs with
 | nil=>intro u j h;exact h
 | cons v vs ih=>intro u j h;exact ih (j+1) (h.set (aA B j) v)
theorem Ua{w:World}(a:N<=B)(vs:List Value):∀{u:World}(j:Nat),Below N w u->Below N w (fill u B j vs):=by
 induction vs with
 | nil=>intro u j h;exact h
 | cons v vs ih=>intro u j h;exact ih (j+1) (h.setCell (p:=(aA B j)) a v)
theorem Vh(vs:List Value):∀{u:World}(j:Nat),(fill u B j vs).heap.size=u.heap.size:=by
 induction vs with
 | nil=>intro u j;rfl
 | cons v vs ih=>intro u j;exact(ih (j+1)).trans E5
theorem fill_eq(B:Nat)(vs:List Value):∀(u:World)(j:Nat),fill u B j vs=u.setCells B j vs:=by
 induction vs with
 | nil=>intro u j;rfl
 | cons v vs ih=>intro u j;exact ih _ _
theorem Bl(B o j:Nat):(⟨B,o,none⟩:Addr).add j=⟨B,o+j,none⟩:=by unfold Addr.add;split<;>simp_all
section
variable{P:Program}
theorem lg(w:World)(B:Nat)(ty:TypeId)(cs:List Value)(d:TypeDesc)(hc:U6 w B cs)
 (b:P.underlying ty=some d) (hd:(match d with | .struct _ | .array _ _=>true|_=>false)=true) (a:(P.info? ty).map (·.size)=some cs.length):
 (loadVar ty ⟨B,0,none⟩).run P w=.ok (.agg cs.toArray) w:=by
 have hl:(loadCells (aA B 0) cs.length).run P w=.ok cs.toArray w:=
  run_loadCells_list (P:=P) w (aA B 0) cs (λj v hv=>by rw[Bl,o9];exact hc j v hv)
 cases hq:P.info? ty with
 | none=>simp[hq]at a
 | some i=>
  have c:i.size=cs.length:=by simpa[hq]using a
  have e:(isAgg ty).run P w=.ok true w:=by
   unfold isAgg;rw[Sem.run_bind,Ws b w];cases d<;>simp_all
  simp[loadVar,e,sizeOf,typeInfo,hq,c,hl]
theorem yc{ops:Array Oper}{rest:List Oper}{o:Oper}{a:Act}{w:World}{Q:Exit->Act->World->Prop}(e:o.guard=none)(ty:TypeId)(x:Operand)(ho:o.op=.load ty x)
 (B:Nat) (hx:a.eval x=.pointer (some ⟨B,0,none⟩)) (cs:List Value) (d:TypeDesc) (hc:U6 w B cs)
 (b:P.underlying ty=some d) (hd:(match d with | .struct _ | .array _ _=>true|_=>false)=true) (c:(P.info? ty).map (·.size)=some cs.length)
 (h:wpList P ops Q rest (a.put o.dst (.agg cs.toArray)) w):wpList P ops Q (o::rest) a w:=by
 refine Qv e λK f=>?_;unfold Oper.wp execOp;simp only[ho,hx,Instr.loadAt,Instr.sureAddr,Sem.run_bind,Zp,Am,lg w B ty cs d hc b hd c];exact f _ _ h
theorem Nh(w:World)(B j:Nat)(ty:TypeId)(vs:List Value)(hc:∀i,i<vs.length->(w.cell? ⟨B,j+i,none⟩).isSome=true)(hf:H9 w B)(h1:∀v∈vs,v.oneCell'=true)
 (b:(P.info? ty).map (·.size)=some vs.length):
 (storeVar ty ⟨B,j,none⟩ (.agg vs.toArray)).run P w=.ok () (fill w B j vs):=by
 have a:=run_storeCells_cells (P:=P) B j vs 0 w (λi h=>by simpa using hc i h) (λi _=>hf _) h1;rw[Qo,<- fill_eq]at a
 cases hq:P.info? ty with
 | none=>simp[hq]at b
 | some i=>
  have hz:i.size=vs.length:=by simpa[hq]using b
  simp[storeVar,Value.cells,sizeOf,typeInfo,hq,hz,a]
theorem G8{ops:Array Oper}{rest:List Oper}{o:Oper}{a:Act}{w:World}{Q:Exit->Act->World->Prop}(e:o.guard=none)(ty:TypeId)(x y:Operand)(ho:o.op=.store ty x y)
 (B j:Nat) (hx:a.eval x=.pointer (some ⟨B,j,none⟩)) (vs:List Value) (c:a.eval y=.agg vs.toArray) (hc:∀i,i<vs.length->(w.cell? ⟨B,j+i,none⟩).isSome=true) (hf:H9 w B) (h1:∀v∈vs,v.oneCell'=true)
 (d:(P.info? ty).map (·.size)=some vs.length) (f:o.dst=none)
 (h:wpList P ops Q rest a (fill w B j vs)):wpList P ops Q (o::rest) a w:=by
 refine Qv e λK b=>?_;unfold Oper.wp execOp;simp only[ho,hx,c,Instr.storeAt,Instr.sureAddr,Sem.run_bind,Zp,Am,Nh w B j ty vs hc hf h1 d]
 first
  | exact b _ _ h
  | (simp only[Oper.upon];exact b _ _ h)
  | (simp only[Oper.upon,f];exact b _ _ h)
theorem J7{fn:Func}{p:Tmp}{ty:TypeId}(h:fn.results=#[.cell p ty])(tmps:Array Value)(w:World)(B:Nat)(cs:List Value)(d:TypeDesc)
 (c:tmps.getD p undef=.pointer (some ⟨B,0,none⟩)) (hc:U6 w B cs)
 (a:P.underlying ty=some d) (hd:(match d with | .struct _ | .array _ _=>true|_=>false)=true) (e:(P.info? ty).map (·.size)=some cs.length):
 (results fn tmps).run P w=.ok (.agg cs.toArray) w:=by
 have b:tmps[p]?.getD undef=.pointer (some (aA B 0)):=by simpa using c
 simp[results,h,b,asAddr,lg w B ty cs d hc a hd e]
end
end Go.Proofs.YtkccjgajimjjdaaGreatDoor
namespace Go.Proofs.YtkccjgajimjjdaaGreatDoor
open Proofs.Tryz Go.RowKit
variable{l:List UInt8}{P:Prop}{w w':World}{a:OA}{v:Value}{b n:Nat}
def a0v(W:Int)(g:G3):Prop:=X6 g.tl.data.toList=true/\(g.ar.size:Int)=W
def RG(W:Int)(x:R3):Prop:=(x.key.size<=321/\(x.out.size:Int)=W/\x.gs.length<=15)/\∀i,i<x.gs.length->a0v W (x.gs.getD i zh)
def a0r(W:Int)(rs:List R3):Prop:=rs.length<=150/\∀i,i<rs.length->RG W (rs.getD i h_)
def StepT(ts:LB)(W:Int)(k:Nat):Prop:=(∃c t,pF (ts.getD k ByteArray.empty).data.toList c t true)/\(k=0\/Op.bytesLess (G7 (ts.getD (k-1) ByteArray.empty) W).toList (G7 (ts.getD k ByteArray.empty) W).toList=true)
def sK(ts:LB)(W:Int):Prop:=ts.length<=300/\∀k,k<ts.length->StepT ts W k
def Bh(s:St):Prop:=(1<=s.wd/\s.wd<=8)/\sK s.ts s.wd/\a0r s.wd s.rs
theorem sU{t:List UInt8}{c:Int}{ok:Bool}(h:pF l c t ok):ok=true↔∃c t,pF l c t true:=by
 constructor
 ·rintro rfl;exact⟨c,t,h⟩
 rintro⟨c',t',a⟩;exact(XL h a).2.2
theorem mr{s:BY}{n:Int}(h:1<=n/\n<=8):(G7 s n).size=n.toNat:=by
 unfold G7;rw[if_pos h,strOfNums_size,Xp]
def Rb(P:Prop)(e:Ending):Prop:=∃b:Bool,e=.returned (.bool b)/\(b=true↔P)
theorem X5(h:¬P):Rb P (.returned (.bool false)):=⟨false,rfl,(λh=>by cases h),λp=>absurd p h⟩
theorem J_(h:P):Rb P (.returned (.bool true)):=⟨true,rfl,λ_=>h,λ_=>rfl⟩
structure L4 where
 has:Bool
 nm:BY
 cd:Int
 tx:BY
def M_:L4:=⟨false,⟨#[]⟩,0,⟨#[]⟩⟩
def L4.le(x:L4)(B:Nat):Prop:=x.nm.size<=B/\x.tx.size<=B
def S9(w:World)(a:OA)(is:List L4):Prop:=
 is=[]\/∃b off,a=some ⟨b,off,none⟩/\b<w.heap.size/\∀i,i<is.length->w.cell? ⟨b,off+i*4,none⟩=some (.bool (is.getD i M_).has)/\w.cell? ⟨b,off+i*4+1,none⟩=some (.string (is.getD i M_).nm)/\w.cell? ⟨b,off+i*4+2,none⟩=some (.int .i64 (is.getD i M_).cd)/\w.cell? ⟨b,off+i*4+3,none⟩=some (.string (is.getD i M_).tx)
theorem Yg{is:List L4}(h:S9 w a is):∃b off,(is=[]\/(a=some ⟨b,off,none⟩/\b<w.heap.size/\∀i,i<is.length->w.cell? ⟨b,off+i*4,none⟩=some (.bool (is.getD i M_).has)/\w.cell? ⟨b,off+i*4+1,none⟩=some (.string (is.getD i M_).nm)/\w.cell? ⟨b,off+i*4+2,none⟩=some (.int .i64 (is.getD i M_).cd)/\w.cell? ⟨b,off+i*4+3,none⟩=some (.string (is.getD i M_).tx))):=by
 rcases h with h|⟨b,off,h⟩
 ·exact⟨0,0,.inl h⟩
 exact⟨b,off,.inr h⟩
theorem U7{is:List L4}(h:S9 w a is)(c:Bw w w'):S9 w' a is:=by
 rcases h with h|⟨b,off,h1,h2,e⟩
 ·exact .inl h
 exact .inr ⟨b,off,h1,U9 h2 c.size,λi d=>by rw[c.cell (by exact h2),c.cell (by exact h2),c.cell (by exact h2),c.cell (by exact h2)];exact e i d⟩
theorem Gu{P:Program}{ops:Array Oper}{o:Oper}{a:Act}{K:Act->World->Prop}{Q:Exit->Act->World->Prop}{E:Prop}
 (r:o.guard=none) (s x:Operand) (t:TypeId) (p:o.op=Op.call { callee:=Callee.builtin Builtin.append,args:=#[s,x],argTypes:=#[t,t] })
 (base:Nat) (e:TypeId) (i:TypeInfo) (z:Value) (size bytes:Nat) (h1:P.underlying t=some (.slice e)) (h2:P.info? e=some i) (H:i.zero=some z) (F:i.size=size) (D:i.bytes=bytes) (C:z.cells.size=size) (B:0<size)
 (v:Value) (n:Nat) (xs:List Value) (h:a.eval s=v) (l:w.ownsRow base e size v n xs)
 (d:Addr) (m c:Nat) (b:List Value) (hx:a.eval x=.slice (some d) m c) (q:b.length=m*size) (hc:∀j u,b[j]?=some u->w.cell? (d.add j)=some u) (I:∀u∈b,u.oneCell'=true)
 (L:n+m<=maxLen) (J:(n+m)*bytes<=140737488355328) (y:base<=w.heap.size)
 (A:∀v' w',w'.ownsRow base e size v' (n+m) (xs++b)->w.grownBy w' v.ownBlock->K (a.put o.dst v') w'):
 if Region.wanted o (yielded ops a.tmps)=true then Oper.wp P o a w K Q else E:=by
 have hw:Region.wanted o (yielded ops a.tmps)=true:=by simp[Region.wanted,r]
 rw[L8 hw];obtain⟨v',w',k,g,f,_⟩:=run_append_own (P:=P) w base t o.type e i z size bytes h1 h2 H F D C B v n xs l d m c b q hc I L J y;unfold Oper.wp;simp[execOp,p,resolve,invoke,builtin,h,hx,k,Result.andThen];exact A v' w' g f
theorem VP{base:Nat}(h:w.ownsRow base 5 1 v n (Lib.byteCells l))(hn:0<n):(convert 181 9 v).run prog w=.ok (.string ⟨l.toArray⟩) w:=by
 have c:=h;obtain⟨h1,h2⟩:=h;rcases h2 with⟨_,h0⟩|⟨g,cp,cur,rfl,hg,hh,_⟩
 ·omega
 have hl:l.length=n:=by rw[Zq]at h1;omega
 have:=run_convert_bytes_arg (P:=prog) w 181 5 underlying181 underlying5 g 0 n cp (l.map λb=>(b.toNat:Int)) (by simpa using hl) (λi hi=>by
  rw[o9,c.cellAt i O0];have a:i<l.length:=O0;simp[Lib.byteCells,a]) 9 underlying9
 rw[this];have e:l.map ((λn:Int=>UInt8.ofNat n.toNat)∘λb=>(b.toNat:Int))=l:=(Tz (λb _=>E5)).trans (PD l);simp only[strOfNums,Nw,e]
theorem yU{c:UInt8}(h:¬T_ c=true):(c.toNat:Int)<32\/126<(c.toNat:Int)\/((32:Int)<=(c.toNat:Int)/\(c.toNat:Int)<=126/\((c.toNat:Int) !=34)=false)\/((32:Int)<=(c.toNat:Int)/\(c.toNat:Int)<=126/\((c.toNat:Int) !=34)=true/\((c.toNat:Int) !=92)=false):=by
 unfold T_ at h;simp only[Ia,rf,UJ,V_]at h;simp only[bne_eq_false_iff_eq,Yt];omega
theorem aI(c:UInt8):IntKind.u8.wrap ((c.toNat:Int) / 16)=(c.toNat:Int) / 16:=by
 have:=c.toNat_lt;simp[IntKind.wrap,IntKind.signed,IntKind.bits];omega
theorem row3(w:World)(x y z:Value)(t:TypeId):∀j u,[x,y,z][j]?=some u->(w.alloc (.cells #[x,y,z] t)).drew.cell? ((⟨w.heap.size,0,none⟩:Addr).add j)=some u:=by
 intro j u h
 match j,h with
 | 0,h=>simp at h;subst h;simp[Addr.add]
 | 1,h=>simp at h;subst h;simp[Addr.add]
 | 2,h=>simp at h;subst h;simp[Addr.add]
def Uf(x:M3):Bool:=X6 x.nm.data.toList&&X6 x.tl.data.toList&&decide ((x.ar.size:Int)<=300)
theorem a2S(x:M3)(w:World)(b:x.le 1048700):
 Calls prog 132 #[.agg #[.string x.nm,.string x.tl,.string x.ar]] w λe w'=>e=.returned (.bool (Uf x))/\Bw w w':=by
 have a:Hid (Uf x=(X6 x.nm.data.toList&&X6 x.tl.data.toList&&decide ((x.ar.size:Int)<=300))):=rfl;obtain⟨h1,h2,h3⟩:=b
 go_in
 go_wp2_with fail
 refine(VO _ _ h1).mono ?_;rintro e w1⟨rfl,rfl⟩;cases hn:X6 x.nm.data.toList
 ·rw[hn]at a;go_wp2
  all_goals go_ret
  all_goals exact⟨b_ (by rw[a.out];simp),Y6⟩
 rw[hn]at a
 go_wp2_with fail
 refine(VO _ _ h2).mono ?_;rintro e w1⟨rfl,rfl⟩;cases hm:X6 x.tl.data.toList
 all_goals
  rw[hm]at a;go_wp2
  all_goals go_ret
  all_goals exact⟨b_ (by rw[a.out];simp),Y6⟩
theorem oW(x:M3)(w:World)(b:x.le 1048700):
 Calls prog 231 #[.agg #[.string x.nm,.string x.tl,.string x.ar]] w λe w'=>e=.returned (.bool (Uf x))/\Bw w w':=by
 have a:Hid (Uf x=(X6 x.nm.data.toList&&X6 x.tl.data.toList&&decide ((x.ar.size:Int)<=300))):=rfl;obtain⟨h1,h2,h3⟩:=b
 go_in
 go_wp2_with fail
 refine(c148 _ _ h1).mono ?_;rintro e w1⟨rfl,rfl⟩;cases hn:X6 x.nm.data.toList
 ·rw[hn]at a;go_wp2
  all_goals go_ret
  all_goals exact⟨b_ (by rw[a.out];simp),Y6⟩
 rw[hn]at a
 go_wp2_with fail
 refine(c148 _ _ h2).mono ?_;rintro e w1⟨rfl,rfl⟩;cases hm:X6 x.tl.data.toList
 all_goals
  rw[hm]at a;go_wp2
  all_goals go_ret
  all_goals exact⟨b_ (by rw[a.out];simp),Y6⟩
theorem tK{x:M3}{v:Bool}(hv:Uf x=v)(w:World)(a:x.le 1048700):
 Calls prog 231 #[.agg #[.string x.nm,.string x.tl,.string x.ar]] w λe w'=>e=.returned (.bool v)/\Bw w w':=hv▸oW x w a
def Yd(x:M3):List UInt8:=x.nm.data.toList++[32]++x.tl.data.toList++[32]++J6 x.ar.data.toList
structure But(b:Nat)(w w':World):Prop where
 os:w'.os=w.os
 tape:w'.tape=w.tape
 output:w'.output=w.output
 size:w.heap.size<=w'.heap.size
 block:∀k,k<w.heap.size->k≠b->w'.heap[k]?=w.heap[k]?
theorem But.refl(b:Nat)(w:World):But b w w:=⟨rfl,rfl,rfl,J8 _,λ_ _ _=>rfl⟩
theorem But.trans{u v:World}(h:But b u v)(k:But b v w):But b u w:=
 ⟨k.os.trans h.os,k.tape.trans h.tape,k.output.trans h.output,I8 h.size k.size,λi c a=>(k.block i (U9 c h.size) a).trans (h.block i c a)⟩
theorem But.of_below(h:Bw w w'):But b w w':=⟨h.os,h.tape,h.output,h.size,λk a _=>h.block k a⟩
theorem But.below{B:Nat}(h:But b w w')(hB:B<=b)(hz:B<=w.heap.size):Below B w w':=⟨h.os,h.tape,h.output,h.size,λk hk=>h.block k O0 O0⟩
theorem But.setCell(h:But b w w')(j:Nat)(v:Value):But b w (w'.setCell ⟨b,j,none⟩ v):=by
 have k:=(G5 b w').setCell (p:=(aA b j)) X7 v;refine⟨k.os.trans h.os,k.tape.trans h.tape,k.output.trans h.output,I8 h.size k.size,λi c a=>?_⟩;rw[<- h.block i c a];exact Ox _ _ _ _ a
theorem But.cell(h:But b w w'){p:Addr}(a:p.block<w.heap.size)(c:p.block≠b):w'.cell? p=w.cell? p:=by
 unfold World.cell?;rw[h.block p.block a c]
theorem Qc(a b:List UInt8):I4 a++I4 b=I4 (a++b):=by apply Xf;simp[I4]
theorem pX(c:UInt8):(⟨#[c]⟩:BY)=I4 [c]:=rfl
theorem sS(x:Int)(l:List UInt8):strOfNums [x]++I4 l=I4 (UInt8.ofNat x.toNat::l):=by
 apply Xf;simp[I4,strOfNums]
def yA(w:World)(b n:Nat):Prop:=b<w.heap.size/\(∀j,j<n*4->∃v,w.cell? ⟨b,j,none⟩=some v)/\∀j,w.frozen? ⟨b,j,none⟩=false
theorem yA.below(h:yA w b n)(a:Bw w w'):yA w' b n:=
 ⟨U9 h.1 a.size,λj c=>by rw[a.cell (by exact h.1)];exact h.2.1 j c,λj=>by rw[a.frozen (by exact h.1)];exact h.2.2 j⟩
theorem yA.set{j:Nat}(h:yA w b n)(hj:j<n*4):yA (w.setCell ⟨b,j,none⟩ v) b n:=by
 refine⟨by simpa using h.1,λi a=>?_,λi=>by have:=h.2.2 i;simpa using this⟩;by_cases e:i=j
 ·subst e;obtain⟨x,hx⟩:=h.2.1 i a;exact⟨v,Pg _ _ _ hx⟩
 rw[Xb _ _ _ _ (Pe (Ym e))];exact h.2.1 i a
