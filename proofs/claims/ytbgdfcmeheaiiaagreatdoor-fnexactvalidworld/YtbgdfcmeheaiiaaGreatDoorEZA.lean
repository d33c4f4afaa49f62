import Derived.Test.YtbgdfcmeheaiiaaGreatDoorEP3
import Derived.Laws.Rows
import Derived.Laws.IdiomCopy
import Derived.Deep.RegionLaw
import Derived.Deep.RegionHeld3
import Derived.Laws.Cover1
set_option linter.unusedVariables false
set_option linter.unusedSimpArgs false
set_option maxRecDepth 100000
set_option maxHeartbeats 8000000
namespace Go.Proofs.YtbgdfcmeheaiiaaGreatDoor
open Proofs.Tryz Go.RowKit
variable{u u':World}{B B' N:Nat}{vs:List Value}
def E5(u:World)(B:Nat)(vs:List Value):Prop:=∀j v,vs[j]?=some v->u.cell? ⟨B,j,none⟩=some v
def o9(u:World)(B:Nat):Prop:=∀j,u.frozen? ⟨B,j,none⟩=false
theorem I9(w:World)(vs:List Value)(t:TypeId):E5 (w.alloc (.cells vs.toArray t)) w.heap.size vs:=λj v h=>by
 simp[go_sem,h]
theorem Rf(w:World)(a:Array Value)(t:TypeId):o9 (w.alloc (.cells a t)) w.heap.size:=λj=>by simp[go_sem]
theorem E5.below(h:E5 u B vs)(a:Below N u u')(b:B<N):E5 u' B vs:=λj v e=>(a.cell (by exact b)).trans (h j v e)
theorem o9.below(h:o9 u B)(a:Below N u u')(b:B<N):o9 u' B:=λj=>(a.frozen (p:=⟨B,j,none⟩) b).trans (h j)
theorem E5.set(h:E5 u B vs)(j:Nat)(v:Value)(b:j<vs.length):E5 (u.setCell ⟨B,j,none⟩ v) B (vs.set j v):=λi x e=>by
 rcases Nat.decEq i j with a|rfl
 ·rw[Qa _ _ _ _ (Ud (λe=>a e.symm))];rw[List.getElem?_set_ne (λh=>a h.symm)]at e;exact h i x e
 rw[List.getElem?_set_self b]at e;obtain rfl:=D_ e;exact ng _ _ _ (h i _ (D9 b))
theorem E5.other(h:E5 u B vs)(p:Addr)(v:Value)(a:p.block≠B):E5 (u.setCell p v) B vs:=λi x e=>by
 rw[Qa _ _ _ _ (λh=>a (by rw[h]))];exact h i x e
theorem o9.set(h:o9 u B)(p:Addr)(v:Value):o9 (u.setCell p v) B:=λj=>by simpa using h j
def fill(u:World)(B:Nat):Nat->List Value->World
 | _,[]=>u
 | j,v::vs=>fill (u.setCell ⟨B,j,none⟩ v) B (j+1) vs
theorem E5.fill(vs:List Value):∀{u:World}(pre old post:List Value)(j:Nat),E5 u B (pre++old++post)->old.length=vs.length->j=pre.length->E5 (fill u B j vs) B (pre++vs++post):=by
 induction vs with
 | nil=>intro u pre old post j h hl _;obtain rfl:old=[]:=La.1 hl;exact h
 | cons v vs ih=>
  intro u pre old post j h hl a
  match old,hl with
  | o::old,hl=>
   subst a;have h1:=h.set pre.length v O4;have e:(pre++(o::old)++post).set pre.length v=(pre++[v])++old++post:=O4;rw[e]at h1;have:=ih (pre++[v]) old post (pre.length+1) h1 (by simpa using hl) O4;have b:pre++[v]++vs++post=pre++(v::vs)++post:=O4;rw[b]at this;exact this
theorem E5.KY(a:B≠B')(vs:List Value):∀{u:World}{xs:List Value}(j:Nat),E5 u B' xs->E5 (Go.Proofs.YtbgdfcmeheaiiaaGreatDoor.fill u B j vs) B' xs:=by
 induction vs with
 | nil=>intro u xs j h;exact h
 | cons v vs ih=>intro u xs j h;exact ih (j+1) (h.other (aA B j) v a)
theorem o9.fill(vs:List Value):∀{u:World}(j:Nat),o9 u B'->o9 (Go.Proofs.YtbgdfcmeheaiiaaGreatDoor.fill u B j vs) B':=by
 induction vs with
 | nil=>intro u j h;exact h
 | cons v vs ih=>intro u j h;exact ih (j+1) (h.set (aA B j) v)
theorem Ya{w:World}(a:N<=B)(vs:List Value):∀{u:World}(j:Nat),Below N w u->Below N w (fill u B j vs):=by
 induction vs with
 | nil=>intro u j h;exact h
 | cons v vs ih=>intro u j h;exact ih (j+1) (h.setCell (p:=(aA B j)) a v)
theorem qh(vs:List Value):∀{u:World}(j:Nat),(fill u B j vs).heap.size=u.heap.size:=by
 induction vs with
 | nil=>intro u j;rfl
 | cons v vs ih=>intro u j;exact(ih (j+1)).trans O4
theorem fill_eq(B:Nat)(vs:List Value):∀(u:World)(j:Nat),fill u B j vs=u.setCells B j vs:=by
 induction vs with
 | nil=>intro u j;rfl
 | cons v vs ih=>intro u j;exact ih _ _
theorem Sj(B o j:Nat):(⟨B,o,none⟩:Addr).add j=⟨B,o+j,none⟩:=by unfold Addr.add;split<;>simp_all
section
variable{P:Program}
theorem Hf(w:World)(B:Nat)(ty:TypeId)(cs:List Value)(d:TypeDesc)(hc:E5 w B cs)
 (b:P.underlying ty=some d) (hd:(match d with | .struct _ | .array _ _=>true|_=>false)=true) (a:(P.info? ty).map (·.size)=some cs.length):
 (loadVar ty ⟨B,0,none⟩).run P w=.ok (.agg cs.toArray) w:=by
 have hl:(loadCells (aA B 0) cs.length).run P w=.ok cs.toArray w:=
  run_loadCells_list (P:=P) w (aA B 0) cs (λj v hv=>by rw[Sj,l7];exact hc j v hv)
 cases hq:P.info? ty with
 | none=>simp[hq]at a
 | some i=>
  have c:i.size=cs.length:=by simpa[hq]using a
  have e:(isAgg ty).run P w=.ok true w:=by
   unfold isAgg;rw[zi,Yr b w];cases d<;>simp_all
  simp[loadVar,e,sizeOf,typeInfo,hq,c,hl]
theorem Nb{ops:Array Oper}{rest:List Oper}{o:Oper}{a:Act}{w:World}{Q:Exit->Act->World->Prop}(e:o.guard=none)(ty:TypeId)(x:Operand)(ho:o.op=.load ty x)
 (B:Nat) (hx:a.eval x=.pointer (some ⟨B,0,none⟩)) (cs:List Value) (d:TypeDesc) (hc:E5 w B cs)
 (b:P.underlying ty=some d) (hd:(match d with | .struct _ | .array _ _=>true|_=>false)=true) (c:(P.info? ty).map (·.size)=some cs.length)
 (h:wpList P ops Q rest (a.put o.dst (.agg cs.toArray)) w):wpList P ops Q (o::rest) a w:=by
 refine qw e λK f=>?_;unfold Oper.wp execOp;simp only[ho,hx,Instr.loadAt,Instr.sureAddr,zi,uo,Nl,Hf w B ty cs d hc b hd c];exact f _ _ h
theorem xh(w:World)(B j:Nat)(ty:TypeId)(vs:List Value)(hc:∀i,i<vs.length->(w.cell? ⟨B,j+i,none⟩).isSome=true)(hf:o9 w B)(h1:∀v∈vs,v.oneCell'=true)
 (b:(P.info? ty).map (·.size)=some vs.length):
 (storeVar ty ⟨B,j,none⟩ (.agg vs.toArray)).run P w=.ok () (fill w B j vs):=by
 have a:=run_storeCells_cells (P:=P) B j vs 0 w (λi h=>by simpa using hc i h) (λi _=>hf _) h1;rw[Iq,<- fill_eq]at a
 cases hq:P.info? ty with
 | none=>simp[hq]at b
 | some i=>
  have c:i.size=vs.length:=by simpa[hq]using b
  simp[storeVar,Value.cells,sizeOf,typeInfo,hq,c,a]
theorem J7{ops:Array Oper}{rest:List Oper}{o:Oper}{a:Act}{w:World}{Q:Exit->Act->World->Prop}(e:o.guard=none)(ty:TypeId)(x y:Operand)(ho:o.op=.store ty x y)
 (B j:Nat) (hx:a.eval x=.pointer (some ⟨B,j,none⟩)) (vs:List Value) (c:a.eval y=.agg vs.toArray) (hc:∀i,i<vs.length->(w.cell? ⟨B,j+i,none⟩).isSome=true) (hf:o9 w B) (h1:∀v∈vs,v.oneCell'=true)
 (d:(P.info? ty).map (·.size)=some vs.length) (f:o.dst=none)
 (h:wpList P ops Q rest a (fill w B j vs)):wpList P ops Q (o::rest) a w:=by
 refine qw e λK b=>?_;unfold Oper.wp execOp;simp only[ho,hx,c,Instr.storeAt,Instr.sureAddr,zi,uo,Nl,xh w B j ty vs hc hf h1 d]
 first
  | exact b _ _ h
  | (simp only[Oper.upon];exact b _ _ h)
  | (simp only[Oper.upon,f];exact b _ _ h)
theorem I8{fn:Func}{p:Tmp}{ty:TypeId}(h:fn.results=#[.cell p ty])(tmps:Array Value)(w:World)(B:Nat)(cs:List Value)(d:TypeDesc)
 (c:tmps.getD p undef=.pointer (some ⟨B,0,none⟩)) (hc:E5 w B cs)
 (a:P.underlying ty=some d) (hd:(match d with | .struct _ | .array _ _=>true|_=>false)=true) (e:(P.info? ty).map (·.size)=some cs.length):
 (results fn tmps).run P w=.ok (.agg cs.toArray) w:=by
 have b:tmps[p]?.getD undef=.pointer (some (aA B 0)):=by simpa using c
 simp[results,h,b,asAddr,Hf w B ty cs d hc a hd e]
end
end Go.Proofs.YtbgdfcmeheaiiaaGreatDoor
namespace Go.Proofs.YtbgdfcmeheaiiaaGreatDoor
open Proofs.Tryz Go.RowKit
variable{l:List UInt8}{P:Prop}{w w':World}{a:OA}{v:Value}{b n:Nat}
def a0P(W:Int)(g:G3):Prop:=Y5 g.tl.data.toList=true/\(g.ar.size:Int)=W
def bH(W:Int)(x:R3):Prop:=(x.key.size<=321/\(x.out.size:Int)=W/\x.gs.length<=15)/\∀i,i<x.gs.length->a0P W (x.gs.getD i ah)
def a0k(W:Int)(rs:List R3):Prop:=rs.length<=150/\∀i,i<rs.length->bH W (rs.getD i j_)
def StepT(ts:LB)(W:Int)(k:Nat):Prop:=(∃c t,YE (ts.getD k ByteArray.empty).data.toList c t true)/\(k=0\/Op.bytesLess (G6 (ts.getD (k-1) ByteArray.empty) W).toList (G6 (ts.getD k ByteArray.empty) W).toList=true)
def qK(ts:LB)(W:Int):Prop:=ts.length<=300/\∀k,k<ts.length->StepT ts W k
def Zg(s:St):Prop:=(1<=s.wd/\s.wd<=8)/\qK s.ts s.wd/\a0k s.wd s.rs
theorem VO{t:List UInt8}{c:Int}{ok:Bool}(h:YE l c t ok):ok=true↔∃c t,YE l c t true:=by
 constructor
 ·rintro rfl;exact⟨c,t,h⟩
 rintro⟨c',t',a⟩;exact(JK h a).2.2
theorem pq{s:BY}{n:Int}(h:1<=n/\n<=8):(G6 s n).size=n.toNat:=by
 unfold G6;rw[if_pos h,strOfNums_size,Vo]
def Rb(P:Prop)(e:Ending):Prop:=∃b:Bool,e=.returned (.bool b)/\(b=true↔P)
theorem I5(h:¬P):Rb P (.returned (.bool false)):=⟨false,rfl,(λh=>by cases h),λp=>absurd p h⟩
theorem F_(h:P):Rb P (.returned (.bool true)):=⟨true,rfl,λ_=>h,λ_=>rfl⟩
structure L4 where
 has:Bool
 nm:BY
 cd:Int
 tx:BY
def l_:L4:=⟨false,⟨#[]⟩,0,⟨#[]⟩⟩
def L4.le(x:L4)(B:Nat):Prop:=x.nm.size<=B/\x.tx.size<=B
def X6(w:World)(a:OA)(is:List L4):Prop:=
 is=[]\/∃b off,a=some ⟨b,off,none⟩/\b<w.heap.size/\∀i,i<is.length->w.cell? ⟨b,off+i*4,none⟩=some (.bool (is.getD i l_).has)/\w.cell? ⟨b,off+i*4+1,none⟩=some (.string (is.getD i l_).nm)/\w.cell? ⟨b,off+i*4+2,none⟩=some (.int .i64 (is.getD i l_).cd)/\w.cell? ⟨b,off+i*4+3,none⟩=some (.string (is.getD i l_).tx)
theorem Ie{is:List L4}(h:X6 w a is):∃b off,(is=[]\/(a=some ⟨b,off,none⟩/\b<w.heap.size/\∀i,i<is.length->w.cell? ⟨b,off+i*4,none⟩=some (.bool (is.getD i l_).has)/\w.cell? ⟨b,off+i*4+1,none⟩=some (.string (is.getD i l_).nm)/\w.cell? ⟨b,off+i*4+2,none⟩=some (.int .i64 (is.getD i l_).cd)/\w.cell? ⟨b,off+i*4+3,none⟩=some (.string (is.getD i l_).tx))):=by
 rcases h with h|⟨b,off,h⟩
 ·exact⟨0,0,.inl h⟩
 exact⟨b,off,.inr h⟩
theorem Z4{is:List L4}(h:X6 w a is)(c:Bw w w'):X6 w' a is:=by
 rcases h with h|⟨b,off,h1,h2,e⟩
 ·exact .inl h
 exact .inr ⟨b,off,h1,G9 h2 c.size,λi d=>by rw[c.cell (by exact h2),c.cell (by exact h2),c.cell (by exact h2),c.cell (by exact h2)];exact e i d⟩
theorem gu{P:Program}{ops:Array Oper}{o:Oper}{a:Act}{K:Act->World->Prop}{Q:Exit->Act->World->Prop}{E:Prop}
 (r:o.guard=none) (s x:Operand) (t:TypeId) (p:o.op=Op.call { callee:=Callee.builtin Builtin.append,args:=#[s,x],argTypes:=#[t,t] })
 (base:Nat) (e:TypeId) (i:TypeInfo) (z:Value) (size bytes:Nat) (h1:P.underlying t=some (.slice e)) (h2:P.info? e=some i) (H:i.zero=some z) (F:i.size=size) (D:i.bytes=bytes) (C:z.cells.size=size) (B:0<size)
 (v:Value) (n:Nat) (xs:List Value) (h:a.eval s=v) (l:w.ownsRow base e size v n xs)
 (d:Addr) (m c:Nat) (b:List Value) (hx:a.eval x=.slice (some d) m c) (q:b.length=m*size) (hc:∀j u,b[j]?=some u->w.cell? (d.add j)=some u) (I:∀u∈b,u.oneCell'=true)
 (L:n+m<=maxLen) (J:(n+m)*bytes<=140737488355328) (y:base<=w.heap.size)
 (A:∀v' w',w'.ownsRow base e size v' (n+m) (xs++b)->w.grownBy w' v.ownBlock->K (a.put o.dst v') w'):
 if Region.wanted o (yielded ops a.tmps)=true then Oper.wp P o a w K Q else E:=by
 have hw:Region.wanted o (yielded ops a.tmps)=true:=by simp[Region.wanted,r]
 rw[D8 hw];obtain⟨v',w',k,g,f,_⟩:=run_append_own (P:=P) w base t o.type e i z size bytes h1 h2 H F D C B v n xs l d m c b q hc I L J y;unfold Oper.wp;simp[execOp,p,resolve,invoke,builtin,h,hx,k,Result.andThen];exact A v' w' g f
theorem jR{base:Nat}(h:w.ownsRow base 5 1 v n (Lib.byteCells l))(hn:0<n):(convert 258 9 v).run prog w=.ok (.string ⟨l.toArray⟩) w:=by
 have c:=h;obtain⟨h1,h2⟩:=h;rcases h2 with⟨_,h0⟩|⟨g,d,cur,rfl,hg,hh,_⟩
 ·omega
 have hl:l.length=n:=by rw[zq]at h1;omega
 have:=run_convert_bytes_arg (P:=prog) w 258 5 underlying258 underlying5 g 0 n d (l.map λb=>(b.toNat:Int)) (by simpa using hl) (λi hi=>by
  rw[l7,c.cellAt i O0];have a:i<l.length:=O0;simp[Lib.byteCells,a]) 9 underlying9
 rw[this];have e:l.map ((λn:Int=>UInt8.ofNat n.toNat)∘λb=>(b.toNat:Int))=l:=(Zu (λb _=>O4)).trans (xE l);simp only[strOfNums,Ju,e]
theorem VS{c:UInt8}(h:¬M_ c=true):(c.toNat:Int)<32\/126<(c.toNat:Int)\/((32:Int)<=(c.toNat:Int)/\(c.toNat:Int)<=126/\((c.toNat:Int) !=34)=false)\/((32:Int)<=(c.toNat:Int)/\(c.toNat:Int)<=126/\((c.toNat:Int) !=34)=true/\((c.toNat:Int) !=92)=false):=by
 unfold M_ at h;simp only[X_,Zc,FI,K_]at h;simp only[bne_eq_false_iff_eq,Qr];omega
theorem RH(c:UInt8):IntKind.u8.wrap ((c.toNat:Int) / 16)=(c.toNat:Int) / 16:=by
 have:=c.toNat_lt;simp[IntKind.wrap,IntKind.signed,IntKind.bits];omega
theorem row3(w:World)(x y z:Value)(t:TypeId):∀j u,[x,y,z][j]?=some u->(w.alloc (.cells #[x,y,z] t)).drew.cell? ((⟨w.heap.size,0,none⟩:Addr).add j)=some u:=by
 intro j u h
 match j,h with
 | 0,h=>simp at h;subst h;simp[Addr.add]
 | 1,h=>simp at h;subst h;simp[Addr.add]
 | 2,h=>simp at h;subst h;simp[Addr.add]
def Xe(x:M3):Bool:=Y5 x.nm.data.toList&&Y5 x.tl.data.toList&&decide ((x.ar.size:Int)<=300)
theorem c98(x:M3)(w:World)(c:x.le 1048700):
 Calls prog 98 #[.agg #[.string x.nm,.string x.tl,.string x.ar]] w λe w'=>e=.returned (.bool (Xe x))/\Bw w w':=by
 have a:Hid (Xe x=(Y5 x.nm.data.toList&&Y5 x.tl.data.toList&&decide ((x.ar.size:Int)<=300))):=rfl;obtain⟨h1,h2,h3⟩:=c
 go_in
 go_wp2_with fail
 refine(EM _ _ h1).mono ?_;rintro e b⟨rfl,rfl⟩;cases hn:Y5 x.nm.data.toList
 ·rw[hn]at a;go_wp2
  all_goals go_ret
  all_goals exact⟨O9 (by rw[a.out];simp),P6⟩
 rw[hn]at a
 go_wp2_with fail
 refine(EM _ _ h2).mono ?_;rintro e b⟨rfl,rfl⟩;cases hm:Y5 x.tl.data.toList
 all_goals
  rw[hm]at a;go_wp2
  all_goals go_ret
  all_goals exact⟨O9 (by rw[a.out];simp),P6⟩
theorem KT(x:M3)(w:World)(c:x.le 1048700):
 Calls prog 239 #[.agg #[.string x.nm,.string x.tl,.string x.ar]] w λe w'=>e=.returned (.bool (Xe x))/\Bw w w':=by
 have a:Hid (Xe x=(Y5 x.nm.data.toList&&Y5 x.tl.data.toList&&decide ((x.ar.size:Int)<=300))):=rfl;obtain⟨h1,h2,h3⟩:=c
 go_in
 go_wp2_with fail
 refine(c124 _ _ h1).mono ?_;rintro e b⟨rfl,rfl⟩;cases hn:Y5 x.nm.data.toList
 ·rw[hn]at a;go_wp2
  all_goals go_ret
  all_goals exact⟨O9 (by rw[a.out];simp),P6⟩
 rw[hn]at a
 go_wp2_with fail
 refine(c124 _ _ h2).mono ?_;rintro e b⟨rfl,rfl⟩;cases hm:Y5 x.tl.data.toList
 all_goals
  rw[hm]at a;go_wp2
  all_goals go_ret
  all_goals exact⟨O9 (by rw[a.out];simp),P6⟩
theorem OL{x:M3}{v:Bool}(hv:Xe x=v)(w:World)(a:x.le 1048700):
 Calls prog 239 #[.agg #[.string x.nm,.string x.tl,.string x.ar]] w λe w'=>e=.returned (.bool v)/\Bw w w':=hv▸KT x w a
def Ad(x:M3):List UInt8:=x.nm.data.toList++[32]++x.tl.data.toList++[32]++J5 x.ar.data.toList
structure But(b:Nat)(w w':World):Prop where
 os:w'.os=w.os
 tape:w'.tape=w.tape
 output:w'.output=w.output
 size:w.heap.size<=w'.heap.size
 block:∀k,k<w.heap.size->k≠b->w'.heap[k]?=w.heap[k]?
theorem But.refl(b:Nat)(w:World):But b w w:=⟨rfl,rfl,rfl,J9 _,λ_ _ _=>rfl⟩
theorem But.trans{u v:World}(h:But b u v)(k:But b v w):But b u w:=
 ⟨k.os.trans h.os,k.tape.trans h.tape,k.output.trans h.output,Q8 h.size k.size,λi c a=>(k.block i (G9 c h.size) a).trans (h.block i c a)⟩
theorem But.of_below(h:Bw w w'):But b w w':=⟨h.os,h.tape,h.output,h.size,λk a _=>h.block k a⟩
theorem But.below{B:Nat}(h:But b w w')(hB:B<=b)(hz:B<=w.heap.size):Below B w w':=⟨h.os,h.tape,h.output,h.size,λk hk=>h.block k O0 O0⟩
theorem But.setCell(h:But b w w')(j:Nat)(v:Value):But b w (w'.setCell ⟨b,j,none⟩ v):=by
 have k:=(J4 b w').setCell (p:=(aA b j)) Y8 v;refine⟨k.os.trans h.os,k.tape.trans h.tape,k.output.trans h.output,Q8 h.size k.size,λi c a=>?_⟩;rw[<- h.block i c a];exact vz _ _ _ _ a
theorem But.cell(h:But b w w'){p:Addr}(a:p.block<w.heap.size)(c:p.block≠b):w'.cell? p=w.cell? p:=by
 unfold World.cell?;rw[h.block p.block a c]
theorem U9(a b:List UInt8):Y2 a++Y2 b=Y2 (a++b):=by apply mg;simp[Y2]
def ZA(w:World)(b n:Nat):Prop:=b<w.heap.size/\(∀j,j<n*4->∃v,w.cell? ⟨b,j,none⟩=some v)/\∀j,w.frozen? ⟨b,j,none⟩=false
theorem ZA.below(h:ZA w b n)(a:Bw w w'):ZA w' b n:=
 ⟨G9 h.1 a.size,λj c=>by rw[a.cell (by exact h.1)];exact h.2.1 j c,λj=>by rw[a.frozen (by exact h.1)];exact h.2.2 j⟩
theorem ZA.set{j:Nat}(h:ZA w b n)(hj:j<n*4):ZA (w.setCell ⟨b,j,none⟩ v) b n:=by
 refine⟨by simpa using h.1,λi a=>?_,λi=>by have:=h.2.2 i;simpa using this⟩;by_cases e:i=j
 ·subst e;obtain⟨x,hx⟩:=h.2.1 i a;exact⟨v,ng _ _ _ hx⟩
 rw[Qa _ _ _ _ (Ud (Ne.symm e))];exact h.2.1 i a
