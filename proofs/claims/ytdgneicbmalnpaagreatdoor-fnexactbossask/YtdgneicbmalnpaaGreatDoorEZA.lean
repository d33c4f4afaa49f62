import Derived.Test.YtdgneicbmalnpaaGreatDoorEP3
import Derived.Deep.RegionHeld3
set_option linter.all false
set_option maxRecDepth 99999
set_option maxHeartbeats 0
open Go.Value renaming slice->Sa,string->Sb,int->Sc,pointer->Sd
open Go.IntKind renaming i64->Se
namespace Go.Proofs.YtdgneicbmalnpaaGreatDoor
open Proofs.Tryz Go.RowKit
variable{u u':World}{B B' N:Nat}{vs:List Value}
def J6(u:World)(B:Nat)(vs:List Value):Prop:=∀j v,vs[j]?=some v->u.cell? ⟨B,j,none⟩=some v
def J9(u:World)(B:Nat):Prop:=∀j,u.frozen? ⟨B,j,none⟩=false
theorem X9(w:World)(vs:List Value)(t:TypeId):J6 (w.alloc (.cells vs.toArray t)) w.heap.size vs:=λj v h=>by
 simp[go_sem,h]
theorem og(w:World)(a:Array Value)(t:TypeId):J9 (w.alloc (.cells a t)) w.heap.size:=λj=>by simp[go_sem]
theorem J6.below(h:J6 u B vs)(a:Below N u u')(b:B<N):J6 u' B vs:=λj v e=>(a.cell (by exact b)).trans (h j v e)
theorem J9.below(h:J9 u B)(a:Below N u u')(b:B<N):J9 u' B:=λj=>(a.frozen (p:=⟨B,j,none⟩) b).trans (h j)
theorem J6.set(h:J6 u B vs)(j:Nat)(v:Value)(b:j<vs.length):J6 (u.setCell ⟨B,j,none⟩ v) B (vs.set j v):=λi x e=>by
 rcases Nat.decEq i j with a|rfl
 ·rw[Nb _ _ _ _ (Le (λe=>a e.symm))];rw[w_ (λh=>a h.symm)]at e;exact h i x e
 rw[Xk b]at e;obtain rfl:=C_ e;exact Jg _ _ _ (h i _ (V8 b))
theorem J6.other(h:J6 u B vs)(p:Addr)(v:Value)(a:p.block≠B):J6 (u.setCell p v) B vs:=λi x e=>by
 rw[Nb _ _ _ _ (λh=>a (by rw[h]))];exact h i x e
theorem J9.set(h:J9 u B)(p:Addr)(v:Value):J9 (u.setCell p v) B:=λj=>by simpa using h j
def fill(u:World)(B:Nat):Nat->List Value->World
 | _,[]=>u
 | j,v::vs=>fill (u.setCell ⟨B,j,none⟩ v) B (j+1) vs
theorem J6.fill(vs:List Value):∀{u:World}(pre old post:List Value)(j:Nat),J6 u B (pre++old++post)->old.length=vs.length->j=pre.length->J6 (fill u B j vs) B (pre++vs++post):=by
 induction vs with
 | nil=>intro u pre old post j h hl _;obtain rfl:old=[]:=Xb.1 hl;exact h
 | cons v vs ih=>
  intro u pre old post j h hl a
  match old,hl with
  | o::old,hl=>
   subst a;have h1:=h.set pre.length v J4;have e:(pre++(o::old)++post).set pre.length v=(pre++[v])++old++post:=J4;rw[e]at h1;have:=ih (pre++[v]) old post (pre.length+1) h1 (by simpa using hl) J4;have b:pre++[v]++vs++post=pre++(v::vs)++post:=J4;rw[b]at this;exact this
theorem J6.a0n(a:B≠B')(vs:List Value):∀{u:World}{xs:List Value}(j:Nat),J6 u B' xs->J6 (Go.Proofs.YtdgneicbmalnpaaGreatDoor.fill u B j vs) B' xs:=by
 induction vs with
 | nil=>intro u xs j h;exact h
 | cons v vs ih=>intro u xs j h;exact ih (j+1) (h.other (aA B j) v a)
theorem J9.fill(vs:List Value):∀{u:World}(j:Nat),J9 u B'->J9 (Go.Proofs.YtdgneicbmalnpaaGreatDoor.fill u B j vs) B':=by
 induction vs with
 | nil=>intro u j h;exact h
 | cons v vs ih=>intro u j h;exact ih (j+1) (h.set (aA B j) v)
theorem Ub{w:World}(a:N<=B)(vs:List Value):∀{u:World}(j:Nat),Below N w u->Below N w (fill u B j vs):=by
 induction vs with
 | nil=>intro u j h;exact h
 | cons v vs ih=>intro u j h;exact ih (j+1) (h.setCell (p:=(aA B j)) a v)
theorem Xh(vs:List Value):∀{u:World}(j:Nat),(fill u B j vs).heap.size=u.heap.size:=by
 induction vs with
 | nil=>intro u j;rfl
 | cons v vs ih=>intro u j;exact(ih (j+1)).trans J4
theorem fill_eq(B:Nat)(vs:List Value):∀(u:World)(j:Nat),fill u B j vs=u.setCells B j vs:=by
 induction vs with
 | nil=>intro u j;rfl
 | cons v vs ih=>intro u j;exact ih _ _
theorem Jl(B o j:Nat):(⟨B,o,none⟩:Addr).add j=⟨B,o+j,none⟩:=by unfold Addr.add;split<;>simp_all
section
variable{P:Program}
theorem qg(w:World)(B:Nat)(ty:TypeId)(cs:List Value)(d:TypeDesc)(hc:J6 w B cs)
 (b:P.underlying ty=some d) (hd:(match d with | .struct _ | .array _ _=>true|_=>false)=true) (a:(P.info? ty).map (·.size)=some cs.length):
 (loadVar ty ⟨B,0,none⟩).run P w=.ok (.agg cs.toArray) w:=by
 have hl:(loadCells (aA B 0) cs.length).run P w=.ok cs.toArray w:=
  run_loadCells_list (P:=P) w (aA B 0) cs (λj v hv=>by rw[Jl,Y8];exact hc j v hv)
 cases hq:P.info? ty with
 | none=>simp[hq]at a
 | some i=>
  have hs:i.size=cs.length:=by simpa[hq]using a
  have c:(isAgg ty).run P w=.ok true w:=by
   unfold isAgg;rw[Xi,Zt b w];cases d<;>simp_all
  simp[loadVar,c,sizeOf,typeInfo,hq,hs,hl]
theorem Cc{ops:Array Oper}{rest:List Oper}{o:Oper}{a:Act}{w:World}{Q:Exit->Act->World->Prop}(e:o.guard=none)(ty:TypeId)(x:Operand)(ho:o.op=.load ty x)
 (B:Nat) (hx:a.eval x=Sd (some ⟨B,0,none⟩)) (cs:List Value) (d:TypeDesc) (hc:J6 w B cs)
 (b:P.underlying ty=some d) (hd:(match d with | .struct _ | .array _ _=>true|_=>false)=true) (c:(P.info? ty).map (·.size)=some cs.length)
 (h:wpList P ops Q rest (a.put o.dst (.agg cs.toArray)) w):wpList P ops Q (o::rest) a w:=by
 refine zx e λK f=>?_;unfold Oper.wp execOp;simp only[ho,hx,Instr.loadAt,Instr.sureAddr,Xi,Tj,Sm,qg w B ty cs d hc b hd c];exact f _ _ h
theorem Zh(w:World)(B j:Nat)(ty:TypeId)(vs:List Value)(hc:∀i,i<vs.length->(w.cell? ⟨B,j+i,none⟩).isSome=true)(hf:J9 w B)(h1:∀v∈vs,v.oneCell'=true)
 (a:(P.info? ty).map (·.size)=some vs.length):
 (storeVar ty ⟨B,j,none⟩ (.agg vs.toArray)).run P w=.ok () (fill w B j vs):=by
 have hs:=run_storeCells_cells (P:=P) B j vs 0 w (λi h=>by simpa using hc i h) (λi _=>hf _) h1;rw[Zo,<- fill_eq]at hs
 cases hq:P.info? ty with
 | none=>simp[hq]at a
 | some i=>
  have hz:i.size=vs.length:=by simpa[hq]using a
  simp[storeVar,Value.cells,sizeOf,typeInfo,hq,hz,hs]
theorem H8{ops:Array Oper}{rest:List Oper}{o:Oper}{a:Act}{w:World}{Q:Exit->Act->World->Prop}(e:o.guard=none)(ty:TypeId)(x y:Operand)(ho:o.op=.store ty x y)
 (B j:Nat) (hx:a.eval x=Sd (some ⟨B,j,none⟩)) (vs:List Value) (c:a.eval y=.agg vs.toArray) (hc:∀i,i<vs.length->(w.cell? ⟨B,j+i,none⟩).isSome=true) (hf:J9 w B) (h1:∀v∈vs,v.oneCell'=true)
 (d:(P.info? ty).map (·.size)=some vs.length) (f:o.dst=none)
 (h:wpList P ops Q rest a (fill w B j vs)):wpList P ops Q (o::rest) a w:=by
 refine zx e λK b=>?_;unfold Oper.wp execOp;simp only[ho,hx,c,Instr.storeAt,Instr.sureAddr,Xi,Tj,Sm,Zh w B j ty vs hc hf h1 d]
 first
  | exact b _ _ h
  | (simp only[Oper.upon];exact b _ _ h)
  | (simp only[Oper.upon,f];exact b _ _ h)
theorem l7{fn:Func}{p:Tmp}{ty:TypeId}(h:fn.results=#[.cell p ty])(tmps:Array Value)(w:World)(B:Nat)(cs:List Value)(d:TypeDesc)
 (c:tmps.getD p undef=Sd (some ⟨B,0,none⟩)) (hc:J6 w B cs)
 (a:P.underlying ty=some d) (hd:(match d with | .struct _ | .array _ _=>true|_=>false)=true) (e:(P.info? ty).map (·.size)=some cs.length):
 (results fn tmps).run P w=.ok (.agg cs.toArray) w:=by
 have b:tmps[p]?.getD undef=Sd (some (aA B 0)):=by simpa using c
 simp[results,h,b,asAddr,qg w B ty cs d hc a hd e]
end
end Go.Proofs.YtdgneicbmalnpaaGreatDoor
namespace Go.Proofs.YtdgneicbmalnpaaGreatDoor
open Proofs.Tryz Go.RowKit
variable{l:List UInt8}{P:Prop}{w w':World}{a:OA}{v:Value}{b n:Nat}
def a1K(W:Int)(g:G3):Prop:=Y5 g.tl.data.toList=true/\(g.ar.size:Int)=W
def UG(W:Int)(x:R3):Prop:=(x.key.size<=321/\(x.o.size:Int)=W/\x.gs.length<=15)/\∀i,i<x.gs.length->a1K W (x.gs.getD i Jh)
def a0G(W:Int)(rs:List R3):Prop:=rs.length<=150/\∀i,i<rs.length->UG W (rs.getD i d_)
def StepT(ts:LB)(W:Int)(k:Nat):Prop:=(∃c t,ZF (ts.getD k ByteArray.empty).data.toList c t true)/\(k=0\/Op.bytesLess (Y6 (ts.getD (k-1) ByteArray.empty) W).toList (Y6 (ts.getD k ByteArray.empty) W).toList=true)
def EL(ts:LB)(W:Int):Prop:=ts.length<=300/\∀k,k<ts.length->StepT ts W k
def Lh(s:St):Prop:=(1<=s.wd/\s.wd<=8)/\EL s.ts s.wd/\a0G s.wd s.rs
theorem DU{t:List UInt8}{c:Int}{ok:Bool}(h:ZF l c t ok):ok=true↔∃c t,ZF l c t true:=by
 constructor
 ·rintro rfl;exact⟨c,t,h⟩
 rintro⟨c',t',a⟩;exact(iM h a).2.2
theorem Es{s:BY}{n:Int}(h:1<=n/\n<=8):(Y6 s n).size=n.toNat:=by
 unfold Y6;rw[if_pos h,strOfNums_size,jq]
def Rb(P:Prop)(e:Ending):Prop:=∃b:Bool,e=.returned (.bool b)/\(b=true↔P)
theorem P5(h:¬P):Rb P (.returned (.bool false)):=⟨false,rfl,(λh=>by cases h),λp=>absurd p h⟩
theorem H_(h:P):Rb P (.returned (.bool true)):=⟨true,rfl,λ_=>h,λ_=>rfl⟩
structure L4 where
 has:Bool
 nm:BY
 cd:Int
 tx:BY
def K_:L4:=⟨false,⟨#[]⟩,0,⟨#[]⟩⟩
def L4.le(x:L4)(B:Nat):Prop:=x.nm.size<=B/\x.tx.size<=B
def O9(w:World)(a:OA)(is:List L4):Prop:=
 is=[]\/∃b off,a=some ⟨b,off,none⟩/\b<w.heap.size/\∀i,i<is.length->w.cell? ⟨b,off+i*4,none⟩=some (.bool (is.getD i K_).has)/\w.cell? ⟨b,off+i*4+1,none⟩=some (Sb (is.getD i K_).nm)/\w.cell? ⟨b,off+i*4+2,none⟩=some (Sc Se (is.getD i K_).cd)/\w.cell? ⟨b,off+i*4+3,none⟩=some (Sb (is.getD i K_).tx)
theorem uh{is:List L4}(h:O9 w a is):∃b off,(is=[]\/(a=some ⟨b,off,none⟩/\b<w.heap.size/\∀i,i<is.length->w.cell? ⟨b,off+i*4,none⟩=some (.bool (is.getD i K_).has)/\w.cell? ⟨b,off+i*4+1,none⟩=some (Sb (is.getD i K_).nm)/\w.cell? ⟨b,off+i*4+2,none⟩=some (Sc Se (is.getD i K_).cd)/\w.cell? ⟨b,off+i*4+3,none⟩=some (Sb (is.getD i K_).tx))):=by
 rcases h with h|⟨b,off,h⟩
 ·exact⟨0,0,.inl h⟩
 exact⟨b,off,.inr h⟩
theorem Q7{is:List L4}(h:O9 w a is)(c:Bw w w'):O9 w' a is:=by
 rcases h with h|⟨b,off,h1,h2,e⟩
 ·exact .inl h
 exact .inr ⟨b,off,h1,P9 h2 c.size,λi d=>by rw[c.cell (by exact h2),c.cell (by exact h2),c.cell (by exact h2),c.cell (by exact h2)];exact e i d⟩
theorem Jv{P:Program}{ops:Array Oper}{o:Oper}{a:Act}{K:Act->World->Prop}{Q:Exit->Act->World->Prop}{E:Prop}
 (q:o.guard=none) (s x:Operand) (t:TypeId) (l:o.op=Op.call { callee:=Callee.builtin Builtin.append,args:=#[s,x],argTypes:=#[t,t] })
 (base:Nat) (e:TypeId) (i:TypeInfo) (z:Value) (size bytes:Nat) (h1:P.underlying t=some (.slice e)) (h2:P.info? e=some i) (F:i.zero=some z) (D:i.size=size) (C:i.bytes=bytes) (B:z.cells.size=size) (A:0<size)
 (v:Value) (n:Nat) (xs:List Value) (hs:a.eval s=v) (k:w.ownsRow base e size v n xs)
 (d:Addr) (m c:Nat) (b:List Value) (hx:a.eval x=Sa (some d) m c) (p:b.length=m*size) (hc:∀j u,b[j]?=some u->w.cell? (d.add j)=some u) (H:∀u∈b,u.oneCell'=true)
 (J:n+m<=maxLen) (I:(n+m)*bytes<=140737488355328) (r:base<=w.heap.size)
 (y:∀v' w',w'.ownsRow base e size v' (n+m) (xs++b)->w.grownBy w' v.ownBlock->K (a.put o.dst v') w'):
 if Region.wanted o (yielded ops a.tmps)=true then Oper.wp P o a w K Q else E:=by
 have hw:Region.wanted o (yielded ops a.tmps)=true:=by simp[Region.wanted,q]
 rw[D8 hw];obtain⟨v',w',h,g,f,_⟩:=run_append_own (P:=P) w base t o.type e i z size bytes h1 h2 F D C B A v n xs k d m c b p hc H J I r;unfold Oper.wp;simp[execOp,l,resolve,invoke,builtin,hs,hx,h,Result.andThen];exact y v' w' g f
theorem OQ{base:Nat}(h:w.ownsRow base 5 1 v n (Lib.byteCells l))(hn:0<n):(convert 211 9 v).run prog w=.ok (Sb ⟨l.toArray⟩) w:=by
 have c:=h;obtain⟨h1,h2⟩:=h;rcases h2 with⟨_,h0⟩|⟨g,cp,cur,rfl,hg,hh,_⟩
 ·omega
 have hl:l.length=n:=by rw[Sr]at h1;omega
 have:=run_convert_bytes_arg (P:=prog) w 211 5 underlying211 underlying5 g 0 n cp (l.map λb=>(b.toNat:Int)) (by simpa using hl) (λi hi=>by
  rw[Y8,c.cellAt i O0];have a:i<l.length:=O0;simp[Lib.byteCells,a]) 9 underlying9
 rw[this];have e:l.map ((λn:Int=>UInt8.ofNat n.toNat)∘λb=>(b.toNat:Int))=l:=(ku (λb _=>J4)).trans (yG l);simp only[strOfNums,Gp,e]
theorem KU{c:UInt8}(h:¬U_ c=true):(c.toNat:Int)<32\/126<(c.toNat:Int)\/((32:Int)<=(c.toNat:Int)/\(c.toNat:Int)<=126/\((c.toNat:Int) !=34)=false)\/((32:Int)<=(c.toNat:Int)/\(c.toNat:Int)<=126/\((c.toNat:Int) !=34)=true/\((c.toNat:Int) !=92)=false):=by
 unfold U_ at h;simp only[Fa,Pe,bJ,S_]at h;simp only[bne_eq_false_iff_eq,ru];omega
theorem WH(c:UInt8):IntKind.u8.wrap ((c.toNat:Int) / 16)=(c.toNat:Int) / 16:=by
 have:=c.toNat_lt;simp[IntKind.wrap,IntKind.signed,IntKind.bits];omega
theorem row3(w:World)(x y z:Value)(t:TypeId):∀j u,[x,y,z][j]?=some u->(w.alloc (.cells #[x,y,z] t)).drew.cell? ((⟨w.heap.size,0,none⟩:Addr).add j)=some u:=by
 intro j u h
 match j,h with
 | 0,h=>simp at h;subst h;simp[Addr.add]
 | 1,h=>simp at h;subst h;simp[Addr.add]
 | 2,h=>simp at h;subst h;simp[Addr.add]
def ig(x:M3):Bool:=Y5 x.nm.data.toList&&Y5 x.tl.data.toList&&decide ((x.ar.size:Int)<=300)
theorem a2M(x:M3)(w:World)(hs:x.le 1048700):
 Calls prog 251 #[.agg #[Sb x.nm,Sb x.tl,Sb x.ar]] w λe w'=>e=.returned (.bool (ig x))/\Bw w w':=by
 have a:Hid (ig x=(Y5 x.nm.data.toList&&Y5 x.tl.data.toList&&decide ((x.ar.size:Int)<=300))):=rfl;obtain⟨h1,h2,h3⟩:=hs
 go_in
 go_wp2_with fail
 refine(c21 _ _ h1).mono ?_;rintro e w1⟨rfl,rfl⟩;cases hn:Y5 x.nm.data.toList
 ·rw[hn]at a;go_wp2
  all_goals go_ret
  all_goals exact⟨Z9 (by rw[a.o];simp),U6⟩
 rw[hn]at a
 go_wp2_with fail
 refine(c21 _ _ h2).mono ?_;rintro e w1⟨rfl,rfl⟩;cases hm:Y5 x.tl.data.toList
 all_goals
  rw[hm]at a;go_wp2
  all_goals go_ret
  all_goals exact⟨Z9 (by rw[a.o];simp),U6⟩
theorem zZ(x:M3)(w:World)(hs:x.le 1048700):
 Calls prog 265 #[.agg #[Sb x.nm,Sb x.tl,Sb x.ar]] w λe w'=>e=.returned (.bool (ig x))/\Bw w w':=by
 have a:Hid (ig x=(Y5 x.nm.data.toList&&Y5 x.tl.data.toList&&decide ((x.ar.size:Int)<=300))):=rfl;obtain⟨h1,h2,h3⟩:=hs
 go_in
 go_wp2_with fail
 refine(c80 _ _ h1).mono ?_;rintro e w1⟨rfl,rfl⟩;cases hn:Y5 x.nm.data.toList
 ·rw[hn]at a;go_wp2
  all_goals go_ret
  all_goals exact⟨Z9 (by rw[a.o];simp),U6⟩
 rw[hn]at a
 go_wp2_with fail
 refine(c80 _ _ h2).mono ?_;rintro e w1⟨rfl,rfl⟩;cases hm:Y5 x.tl.data.toList
 all_goals
  rw[hm]at a;go_wp2
  all_goals go_ret
  all_goals exact⟨Z9 (by rw[a.o];simp),U6⟩
theorem XM{x:M3}{v:Bool}(hv:ig x=v)(w:World)(hs:x.le 1048700):
 Calls prog 265 #[.agg #[Sb x.nm,Sb x.tl,Sb x.ar]] w λe w'=>e=.returned (.bool v)/\Bw w w':=hv▸zZ x w hs
def je(x:M3):List UInt8:=x.nm.data.toList++[32]++x.tl.data.toList++[32]++Z5 x.ar.data.toList
structure But(b:Nat)(w w':World):Prop where
 os:w'.os=w.os
 tape:w'.tape=w.tape
 output:w'.output=w.output
 size:w.heap.size<=w'.heap.size
 block:∀k,k<w.heap.size->k≠b->w'.heap[k]?=w.heap[k]?
theorem But.refl(b:Nat)(w:World):But b w w:=⟨rfl,rfl,rfl,Y7 _,λ_ _ _=>rfl⟩
theorem But.trans{u v:World}(h:But b u v)(k:But b v w):But b u w:=
 ⟨k.os.trans h.os,k.tape.trans h.tape,k.output.trans h.output,X7 h.size k.size,λi c a=>(k.block i (P9 c h.size) a).trans (h.block i c a)⟩
theorem But.of_below(h:Bw w w'):But b w w':=⟨h.os,h.tape,h.output,h.size,λk hk _=>h.block k hk⟩
theorem But.below{B:Nat}(h:But b w w')(hB:B<=b)(hz:B<=w.heap.size):Below B w w':=⟨h.os,h.tape,h.output,h.size,λk hk=>h.block k O0 O0⟩
theorem But.setCell(h:But b w w')(j:Nat)(v:Value):But b w (w'.setCell ⟨b,j,none⟩ v):=by
 have k:=(O4 b w').setCell (p:=(aA b j)) A8 v;refine⟨k.os.trans h.os,k.tape.trans h.tape,k.output.trans h.output,X7 h.size k.size,λi c a=>?_⟩;rw[<- h.block i c a];exact ou _ _ _ _ a
theorem But.cell(h:But b w w'){p:Addr}(a:p.block<w.heap.size)(c:p.block≠b):w'.cell? p=w.cell? p:=by
 unfold World.cell?;rw[h.block p.block a c]
theorem Xc(a b:List UInt8):U3 a++U3 b=U3 (a++b):=by apply jg;simp[U3]
theorem TY(c:UInt8):(⟨#[c]⟩:BY)=U3 [c]:=rfl
theorem TR(x:Int)(l:List UInt8):strOfNums [x]++U3 l=U3 (UInt8.ofNat x.toNat::l):=by
 apply jg;simp[U3,strOfNums]
def EC(w:World)(b n:Nat):Prop:=b<w.heap.size/\(∀j,j<n*4->∃v,w.cell? ⟨b,j,none⟩=some v)/\∀j,w.frozen? ⟨b,j,none⟩=false
theorem EC.below(h:EC w b n)(a:Bw w w'):EC w' b n:=
 ⟨P9 h.1 a.size,λj c=>by rw[a.cell (by exact h.1)];exact h.2.1 j c,λj=>by rw[a.frozen (by exact h.1)];exact h.2.2 j⟩
theorem EC.set{j:Nat}(h:EC w b n)(hj:j<n*4):EC (w.setCell ⟨b,j,none⟩ v) b n:=by
 refine⟨by simpa using h.1,λi a=>?_,λi=>by have:=h.2.2 i;simpa using this⟩;by_cases e:i=j
 ·subst e;obtain⟨x,hx⟩:=h.2.1 i a;exact⟨v,Jg _ _ _ hx⟩
 rw[Nb _ _ _ _ (Le (Xn e))];exact h.2.1 i a
