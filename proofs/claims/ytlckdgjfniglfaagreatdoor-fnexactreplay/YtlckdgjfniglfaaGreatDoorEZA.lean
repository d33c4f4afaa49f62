import Derived.Test.YtlckdgjfniglfaaGreatDoorEP3
import Derived.Deep.RegionLaw
import Derived.Laws.Cover1
import Derived.Laws.Rows
import Derived.Laws.IdiomCopy
set_option linter.unusedVariables false
set_option linter.unusedSimpArgs false
set_option maxRecDepth 100000
set_option maxHeartbeats 8000000
namespace Go.Proofs.YtlckdgjfniglfaaGreatDoor
open Proofs.Tryz
open Go.RowKit
theorem step_app {P:Program} {ops:Array Oper} {o:Oper} {a:Act} {w:World} {K:Act->World->Prop} {Q:Exit->Act->World->Prop} {E:Prop}
 (hg:o.guard=none) (s x:Operand) (t:TypeId) (hop:o.op=Op.call { callee:=Callee.builtin Builtin.append,args:=#[s,x],argTypes:=#[t,t] })
 (base:Nat) (e:TypeId) (i:TypeInfo) (z:Value) (size bytes:Nat) (h1:P.underlying t=some (.slice e)) (h2:P.info? e=some i) (h3:i.zero=some z) (h4:i.size=size) (h5:i.bytes=bytes) (h6:z.cells.size=size) (h7:0<size)
 (v:Value) (n:Nat) (xs:List Value) (hs:a.eval s=v) (hown:w.ownsRow base e size v n xs)
 (ad:Addr) (m c:Nat) (news:List Value) (hx:a.eval x=.slice (some ad) m c) (hn:news.length=m*size) (hc:∀ j u,news[j]?=some u->w.cell? (ad.add j)=some u) (h1c:∀ u∈news,u.oneCell'=true)
 (b1:n+m<=maxLen) (b2:(n+m)*bytes<=140737488355328) (hb:base<=w.heap.size)
 (hK:∀ v' w',w'.ownsRow base e size v' (n+m) (xs++news)->w.grownBy w' v.ownBlock->K (a.put o.dst v') w'):
 if Region.wanted o (yielded ops a.tmps)=true then Oper.wp P o a w K Q else E:=by
 have hw:Region.wanted o (yielded ops a.tmps)=true:=by simp [Region.wanted,hg]
 rw [if_pos hw];obtain ⟨v',w',hrun,r1,r2,_⟩:=run_append_own (P:=P) w base t o.type e i z size bytes h1 h2 h3 h4 h5 h6 h7 v n xs hown ad m c news hn hc h1c b1 b2 hb;unfold Oper.wp;simp [execOp,hop,resolve,invoke,builtin,hs,hx,hrun,Result.andThen];exact hK v' w' r1 r2
theorem conv_own {w:World} {base:Nat} {v:Value} {n:Nat} {l:List UInt8} (h:w.ownsRow base 5 1 v n (Lib.byteCells l)) (hn:0<n):(convert 122 9 v).run prog w=.ok (.string ⟨l.toArray⟩) w:=by
 have h':=h;obtain ⟨h1,h2⟩:=h;rcases h2 with ⟨_,h0⟩ | ⟨g,cp,cur,rfl,hg,hh,_⟩
 · omega
 · have hl:l.length=n:=by rw [cells_len] at h1;omega
   have:=run_convert_bytes_arg (P:=prog) w 122 5 underlying122 underlying5 g 0 n cp (l.map fun b=>(b.toNat:Int)) (by simpa using hl) (fun i hi=>by
    rw [Nat.zero_add,h'.cellAt i om_];have hi':i<l.length:=om_;simp [Lib.byteCells,hi']) 9 underlying9
   rw [this];have e:l.map ((fun n:Int=>UInt8.ofNat n.toNat)∘fun b=>(b.toNat:Int))=l:=(List.map_congr_left (fun b _=>sm_)).trans (List.map_id l);simp only [strOfNums,List.map_map,e]
theorem notPlain {c:UInt8} (h:¬ plainB c=true):(c.toNat:Int)<32\/126<(c.toNat:Int)\/((32:Int)<=(c.toNat:Int)/\(c.toNat:Int)<=126/\((c.toNat:Int) !=34)=false)\/((32:Int)<=(c.toNat:Int)/\(c.toNat:Int)<=126/\((c.toNat:Int) !=34)=true/\((c.toNat:Int) !=92)=false):=by
 unfold plainB at h;simp only [Bool.and_eq_true,decide_eq_true_eq,Bool.not_eq_true',beq_eq_false_iff_ne] at h;simp only [bne_eq_false_iff_eq,bne_iff_ne];omega
theorem wrap_div (c:UInt8):IntKind.u8.wrap ((c.toNat:Int) / 16)=(c.toNat:Int) / 16:=by
 have:=c.toNat_lt;simp [IntKind.wrap,IntKind.signed,IntKind.bits];omega
theorem row3 (w:World) (x y z:Value) (t:TypeId):∀ j u,[x,y,z][j]?=some u->(w.alloc (.cells #[x,y,z] t)).drew.cell? ((⟨w.heap.size,0,none⟩:Addr).add j)=some u:=by
 intro j u h
 match j,h with
 | 0,h=>simp at h;subst h;simp [Addr.add]
 | 1,h=>simp at h;subst h;simp [Addr.add]
 | 2,h=>simp at h;subst h;simp [Addr.add]
def okM (x:M3):Bool:=nameOk x.nm.data.toList&&nameOk x.tl.data.toList&&decide ((x.ar.size:Int)<=300)
theorem c105 (x:M3) (w:World) (hs:x.le 1048700):
 Calls prog 105 #[.agg #[.string x.nm,.string x.tl,.string x.ar]] w fun e w'=>e=.returned (.bool (okM x))/\Below w.heap.size w w':=by
 have HF:Hid (okM x=(nameOk x.nm.data.toList&&nameOk x.tl.data.toList&&decide ((x.ar.size:Int)<=300))):=rfl;obtain ⟨h1,h2,h3⟩:=hs;go_enter func105,ntmps105
 go_wp2_with fail
 refine (c62 _ _ h1).mono ?_;rintro e w1 ⟨rfl,rfl⟩;cases hn:nameOk x.nm.data.toList
 · rw [hn] at HF
   go_wp2
   all_goals go_ret
   all_goals exact ⟨ret_bool (by rw [HF.out];simp),bA_⟩
 · rw [hn] at HF
   go_wp2_with fail
   refine (c62 _ _ h2).mono ?_;rintro e w1 ⟨rfl,rfl⟩;cases hm:nameOk x.tl.data.toList
   all_goals
    rw [hm] at HF;go_wp2
    all_goals go_ret
    all_goals exact ⟨ret_bool (by rw [HF.out];simp),bA_⟩
theorem c89 (x:M3) (w:World) (hs:x.le 1048700):
 Calls prog 89 #[.agg #[.string x.nm,.string x.tl,.string x.ar]] w fun e w'=>e=.returned (.bool (okM x))/\Below w.heap.size w w':=by
 have HF:Hid (okM x=(nameOk x.nm.data.toList&&nameOk x.tl.data.toList&&decide ((x.ar.size:Int)<=300))):=rfl;obtain ⟨h1,h2,h3⟩:=hs;go_enter func89,ntmps89
 go_wp2_with fail
 refine (c112 _ _ h1).mono ?_;rintro e w1 ⟨rfl,rfl⟩;cases hn:nameOk x.nm.data.toList
 · rw [hn] at HF
   go_wp2
   all_goals go_ret
   all_goals exact ⟨ret_bool (by rw [HF.out];simp),bA_⟩
 · rw [hn] at HF
   go_wp2_with fail
   refine (c112 _ _ h2).mono ?_;rintro e w1 ⟨rfl,rfl⟩;cases hm:nameOk x.tl.data.toList
   all_goals
    rw [hm] at HF;go_wp2
    all_goals go_ret
    all_goals exact ⟨ret_bool (by rw [HF.out];simp),bA_⟩
theorem c89v {x:M3} {v:Bool} (hv:okM x=v) (w:World) (hs:x.le 1048700):
 Calls prog 89 #[.agg #[.string x.nm,.string x.tl,.string x.ar]] w fun e w'=>e=.returned (.bool v)/\Below w.heap.size w w':=hv▸c89 x w hs
def bodyL (x:M3):List UInt8:=x.nm.data.toList++[32]++x.tl.data.toList++[32]++quoteL x.ar.data.toList
structure L4 where
 has:Bool
 nm:ByteArray
 cd:Int
 tx:ByteArray
def l4z:L4:=⟨false,⟨#[]⟩,0,⟨#[]⟩⟩
def L4.le (x:L4) (B:Nat):Prop:=x.nm.size<=B/\x.tx.size<=B
def LksAt (w:World) (a:Option Addr) (is:List L4):Prop:=
 is=[]\/∃ b off,a=some ⟨b,off,none⟩/\b<w.heap.size/\∀ i,i<is.length->w.cell? ⟨b,off+i*4,none⟩=some (.bool (is.getD i l4z).has)/\w.cell? ⟨b,off+i*4+1,none⟩=some (.string (is.getD i l4z).nm)/\w.cell? ⟨b,off+i*4+2,none⟩=some (.int .i64 (is.getD i l4z).cd)/\w.cell? ⟨b,off+i*4+3,none⟩=some (.string (is.getD i l4z).tx)
theorem lks_some {w:World} {a:Option Addr} {is:List L4} (h:LksAt w a is):∃ b off,(is=[]\/(a=some ⟨b,off,none⟩/\b<w.heap.size/\∀ i,i<is.length->w.cell? ⟨b,off+i*4,none⟩=some (.bool (is.getD i l4z).has)/\w.cell? ⟨b,off+i*4+1,none⟩=some (.string (is.getD i l4z).nm)/\w.cell? ⟨b,off+i*4+2,none⟩=some (.int .i64 (is.getD i l4z).cd)/\w.cell? ⟨b,off+i*4+3,none⟩=some (.string (is.getD i l4z).tx))):=by
 rcases h with h | ⟨b,off,h⟩
 · exact ⟨0,0,.inl h⟩
 · exact ⟨b,off,.inr h⟩
theorem lks_below {w w':World} {a:Option Addr} {is:List L4} (h:LksAt w a is) (hb:Below w.heap.size w w'):LksAt w' a is:=by
 rcases h with h | ⟨b,off,h1,h2,h3⟩
 · exact .inl h
 · exact .inr ⟨b,off,h1,Nat.lt_of_lt_of_le h2 hb.size,fun i hi=>by rw [hb.cell (by exact h2),hb.cell (by exact h2),hb.cell (by exact h2),hb.cell (by exact h2)];exact h3 i hi⟩
def BlkAt (u:World) (B:Nat) (vs:List Value):Prop:=∀ j v,vs[j]?=some v->u.cell? ⟨B,j,none⟩=some v
def OpnAt (u:World) (B:Nat):Prop:=∀ j,u.frozen? ⟨B,j,none⟩=false
theorem blk_new (w:World) (vs:List Value) (t:TypeId):BlkAt (w.alloc (.cells vs.toArray t)) w.heap.size vs:=fun j v h=>by
 simp [go_sem,h]
theorem opn_new (w:World) (a:Array Value) (t:TypeId):OpnAt (w.alloc (.cells a t)) w.heap.size:=fun j=>by simp [go_sem]
theorem BlkAt.below {u u':World} {B N:Nat} {vs:List Value} (h:BlkAt u B vs) (hb:Below N u u') (hN:B<N):BlkAt u' B vs:=fun j v e=>(hb.cell (p:=⟨B,j,none⟩) hN).trans (h j v e)
theorem OpnAt.below {u u':World} {B N:Nat} (h:OpnAt u B) (hb:Below N u u') (hN:B<N):OpnAt u' B:=fun j=>(hb.frozen (p:=⟨B,j,none⟩) hN).trans (h j)
theorem BlkAt.set {u:World} {B:Nat} {vs:List Value} (h:BlkAt u B vs) (j:Nat) (v:Value) (hj:j<vs.length):BlkAt (u.setCell ⟨B,j,none⟩ v) B (vs.set j v):=fun i x e=>by
 rcases Nat.decEq i j with hne | rfl
 · rw [World.cell?_setCell_other _ _ _ _ (adr_ne (fun e=>hne e.symm))]
   rw [List.getElem?_set_ne (fun h=>hne h.symm)] at e;exact h i x e
 · rw [List.getElem?_set_self hj] at e
   obtain rfl:=Option.some.inj e;exact World.cell?_setCell_same _ _ _ (h i _ (List.getElem?_eq_getElem hj))
theorem BlkAt.other {u:World} {B:Nat} {vs:List Value} (h:BlkAt u B vs) (p:Addr) (v:Value) (hp:p.block≠B):BlkAt (u.setCell p v) B vs:=fun i x e=>by
 rw [World.cell?_setCell_other _ _ _ _ (fun h=>hp (by rw [h]))];exact h i x e
theorem OpnAt.set {u:World} {B:Nat} (h:OpnAt u B) (p:Addr) (v:Value):OpnAt (u.setCell p v) B:=fun j=>by simpa using h j
def fill (u:World) (B:Nat):Nat->List Value->World
 | _,[]=>u
 | j,v::vs=>fill (u.setCell ⟨B,j,none⟩ v) B (j+1) vs
theorem BlkAt.fill {B:Nat} (vs:List Value):∀ {u:World} (pre old post:List Value) (j:Nat),BlkAt u B (pre++old++post)->old.length=vs.length->j=pre.length->BlkAt (fill u B j vs) B (pre++vs++post):=by
 induction vs with
 | nil=>intro u pre old post j h hl _;obtain rfl:old=[]:=List.length_eq_zero_iff.1 hl;exact h
 | cons v vs ih=>
  intro u pre old post j h hl hj
  match old,hl with
  | o::old,hl=>
   subst hj;have h1:=h.set pre.length v sm_;have e:(pre++(o::old)++post).set pre.length v=(pre++[v])++old++post:=sm_;rw [e] at h1;have:=ih (pre++[v]) old post (pre.length+1) h1 (by simpa using hl) sm_;have e2:pre++[v]++vs++post=pre++(v::vs)++post:=sm_;rw [e2] at this;exact this
theorem BlkAt.fillO {B B':Nat} (hne:B≠B') (vs:List Value):∀ {u:World} {xs:List Value} (j:Nat),BlkAt u B' xs->BlkAt (Go.Proofs.YtlckdgjfniglfaaGreatDoor.fill u B j vs) B' xs:=by
 induction vs with
 | nil=>intro u xs j h;exact h
 | cons v vs ih=>intro u xs j h;exact ih (j+1) (h.other ⟨B,j,none⟩ v hne)
theorem OpnAt.fill {B B':Nat} (vs:List Value):∀ {u:World} (j:Nat),OpnAt u B'->OpnAt (Go.Proofs.YtlckdgjfniglfaaGreatDoor.fill u B j vs) B':=by
 induction vs with
 | nil=>intro u j h;exact h
 | cons v vs ih=>intro u j h;exact ih (j+1) (h.set ⟨B,j,none⟩ v)
theorem below_fill {B N:Nat} {w:World} (hN:N<=B) (vs:List Value):∀ {u:World} (j:Nat),Below N w u->Below N w (fill u B j vs):=by
 induction vs with
 | nil=>intro u j h;exact h
 | cons v vs ih=>intro u j h;exact ih (j+1) (h.setCell (p:=⟨B,j,none⟩) hN v)
theorem size_fill {B:Nat} (vs:List Value):∀ {u:World} (j:Nat),(fill u B j vs).heap.size=u.heap.size:=by
 induction vs with
 | nil=>intro u j;rfl
 | cons v vs ih=>intro u j;exact (ih (j+1)).trans sm_
theorem fill_eq (B:Nat) (vs:List Value):∀ (u:World) (j:Nat),fill u B j vs=u.setCells B j vs:=by
 induction vs with
 | nil=>intro u j;rfl
 | cons v vs ih=>intro u j;exact ih _ _
theorem adr_add (B o j:Nat):(⟨B,o,none⟩:Addr).add j=⟨B,o+j,none⟩:=by unfold Addr.add;split <;> simp_all
section
variable {P:Program}
theorem run_loadVar_blk (w:World) (B:Nat) (ty:TypeId) (cs:List Value) (d:TypeDesc) (hc:BlkAt w B cs)
 (hu:P.underlying ty=some d) (hd:(match d with | .struct _ | .array _ _=>true | _=>false)=true) (hi:(P.info? ty).map (·.size)=some cs.length):
 (loadVar ty ⟨B,0,none⟩).run P w=.ok (.agg cs.toArray) w:=by
 have hl:(loadCells ⟨B,0,none⟩ cs.length).run P w=.ok cs.toArray w:=
  run_loadCells_list (P:=P) w ⟨B,0,none⟩ cs (fun j v hv=>by rw [adr_add,Nat.zero_add];exact hc j v hv)
 cases hq:P.info? ty with
 | none=>simp [hq] at hi
 | some i=>
  have hs:i.size=cs.length:=by simpa [hq] using hi
  have hagg:(isAgg ty).run P w=.ok true w:=by
   unfold isAgg;rw [Sem.run_bind,run_underlying hu w];cases d <;> simp_all
  simp [loadVar,Sem.run_bind,hagg,sizeOf,typeInfo,hq,hs,hl]
theorem wpList_load_blk {ops:Array Oper} {rest:List Oper} {o:Oper} {a:Act} {w:World} {Q:Exit->Act->World->Prop} (hgd:o.guard=none) (ty:TypeId) (x:Operand) (ho:o.op=.load ty x)
 (B:Nat) (hx:a.eval x=.pointer (some ⟨B,0,none⟩)) (cs:List Value) (d:TypeDesc) (hc:BlkAt w B cs)
 (hu:P.underlying ty=some d) (hd:(match d with | .struct _ | .array _ _=>true | _=>false)=true) (hi:(P.info? ty).map (·.size)=some cs.length)
 (h:wpList P ops Q rest (a.put o.dst (.agg cs.toArray)) w):wpList P ops Q (o::rest) a w:=by
 refine wpList_plain hgd fun K hK=>?_;unfold Oper.wp execOp;simp only [ho,hx,Instr.loadAt,Instr.sureAddr,Sem.run_bind,Sem.run_pure,Result.andThen_ok,run_loadVar_blk w B ty cs d hc hu hd hi];exact hK _ _ h
theorem run_storeVar_blk (w:World) (B j:Nat) (ty:TypeId) (vs:List Value) (hc:∀ i,i<vs.length->(w.cell? ⟨B,j+i,none⟩).isSome=true) (hf:OpnAt w B) (h1:∀ v∈vs,v.oneCell'=true)
 (hi:(P.info? ty).map (·.size)=some vs.length):
 (storeVar ty ⟨B,j,none⟩ (.agg vs.toArray)).run P w=.ok () (fill w B j vs):=by
 have hs:=run_storeCells_cells (P:=P) B j vs 0 w (fun i h=>by simpa using hc i h) (fun i _=>hf _) h1;rw [Nat.add_zero,<- fill_eq] at hs
 cases hq:P.info? ty with
 | none=>simp [hq] at hi
 | some i=>
  have hz:i.size=vs.length:=by simpa [hq] using hi
  simp [storeVar,Value.cells,Sem.run_bind,sizeOf,typeInfo,hq,hz,hs]
theorem wpList_store_blk {ops:Array Oper} {rest:List Oper} {o:Oper} {a:Act} {w:World} {Q:Exit->Act->World->Prop} (hgd:o.guard=none) (ty:TypeId) (x y:Operand) (ho:o.op=.store ty x y)
 (B j:Nat) (hx:a.eval x=.pointer (some ⟨B,j,none⟩)) (vs:List Value) (hy:a.eval y=.agg vs.toArray) (hc:∀ i,i<vs.length->(w.cell? ⟨B,j+i,none⟩).isSome=true) (hf:OpnAt w B) (h1:∀ v∈vs,v.oneCell'=true)
 (hi:(P.info? ty).map (·.size)=some vs.length) (hdst:o.dst=none)
 (h:wpList P ops Q rest a (fill w B j vs)):wpList P ops Q (o::rest) a w:=by
 refine wpList_plain hgd fun K hK=>?_;unfold Oper.wp execOp;simp only [ho,hx,hy,Instr.storeAt,Instr.sureAddr,Sem.run_bind,Sem.run_pure,Result.andThen_ok,run_storeVar_blk w B j ty vs hc hf h1 hi]
 first
  | exact hK _ _ h
  | (simp only [Oper.upon];exact hK _ _ h)
  | (simp only [Oper.upon,hdst];exact hK _ _ h)
theorem results_blk {fn:Func} {p:Tmp} {ty:TypeId} (h:fn.results=#[.cell p ty]) (tmps:Array Value) (w:World) (B:Nat) (cs:List Value) (d:TypeDesc)
 (hp:tmps.getD p undef=.pointer (some ⟨B,0,none⟩)) (hc:BlkAt w B cs)
 (hu:P.underlying ty=some d) (hd:(match d with | .struct _ | .array _ _=>true | _=>false)=true) (hi:(P.info? ty).map (·.size)=some cs.length):
 (results fn tmps).run P w=.ok (.agg cs.toArray) w:=by
 have hp':tmps[p]?.getD undef=.pointer (some ⟨B,0,none⟩):=by simpa using hp
 simp [results,h,hp',asAddr,run_loadVar_blk w B ty cs d hc hu hd hi]
end
end Go.Proofs.YtlckdgjfniglfaaGreatDoor
namespace Go.Proofs.YtlckdgjfniglfaaGreatDoor
open Proofs.Tryz
open Go.RowKit
structure But (b:Nat) (w w':World):Prop where
 os:w'.os=w.os
 tape:w'.tape=w.tape
 output:w'.output=w.output
 size:w.heap.size<=w'.heap.size
 block:∀ k,k<w.heap.size->k≠b->w'.heap[k]?=w.heap[k]?
theorem But.refl (b:Nat) (w:World):But b w w:=⟨rfl,rfl,rfl,Nat.le_refl _,fun _ _ _=>rfl⟩
theorem But.trans {b:Nat} {u v w:World} (h:But b u v) (k:But b v w):But b u w:=
 ⟨k.os.trans h.os,k.tape.trans h.tape,k.output.trans h.output,Nat.le_trans h.size k.size,fun i hi hne=>(k.block i (Nat.lt_of_lt_of_le hi h.size) hne).trans (h.block i hi hne)⟩
theorem But.of_below {b:Nat} {w w':World} (h:Below w.heap.size w w'):But b w w':=⟨h.os,h.tape,h.output,h.size,fun k hk _=>h.block k hk⟩
theorem But.below {b B:Nat} {w w':World} (h:But b w w') (hB:B<=b) (hz:B<=w.heap.size):Below B w w':=⟨h.os,h.tape,h.output,h.size,fun k hk=>h.block k om_ om_⟩
theorem But.setCell {b:Nat} {w w':World} (h:But b w w') (j:Nat) (v:Value):But b w (w'.setCell ⟨b,j,none⟩ v):=by
 have k:=(Below.refl b w').setCell (p:=⟨b,j,none⟩) lr_ v;refine ⟨k.os.trans h.os,k.tape.trans h.tape,k.output.trans h.output,Nat.le_trans h.size k.size,fun i hi hne=>?_⟩;rw [<- h.block i hi hne];exact Below.heap_setCell _ _ _ _ hne
theorem But.cell {b:Nat} {w w':World} (h:But b w w') {p:Addr} (hp:p.block<w.heap.size) (hne:p.block≠b):w'.cell? p=w.cell? p:=by
 unfold World.cell?;rw [h.block p.block hp hne]
theorem cat_ofL (a b:List UInt8):ofL a++ofL b=ofL (a++b):=by apply ByteArray.ext;simp [ofL]
theorem one_ofL (c:UInt8):(⟨#[c]⟩:ByteArray)=ofL [c]:=rfl
theorem cons_ofL (x:Int) (l:List UInt8):strOfNums [x]++ofL l=ofL (UInt8.ofNat x.toNat::l):=by
 apply ByteArray.ext;simp [ofL,strOfNums]
theorem c23 (K:Int) (w:World) (h1:1<=K) (h2:K<=10000000):
 Calls prog 23 #[.int .i64 K] w fun e w'=>e=.returned (.string (ofL (109::dec K)))/\Below w.heap.size w w':=by
 have hcv:=conv1;have hcd:=convD;have hz:∀ y,(strOfNums [y]).size=1:=fun y=>strOfNums_size [y];have hdl:=dec_len K om_ om_;go_enter func23,ntmps23
 go_wp2_with fail
 go_loopw [0,3] (fun k o wr=>∃ (m:Int) (l:List UInt8),0<=m/\m<=10000000/\k=.int .i64 m/\o=.string (ofL l)/\Hid (dec K=if m=0 then l else dec m++l)/\Below w.heap.size w wr) (fun k _ _=>(intOf k).toNat)
 case atStart=>exact ⟨K,[],om_,h2,rfl,rfl,by rw [if_neg om_];simp [Hid],Below.refl _ _⟩
 case round=>
  obtain ⟨m,l,hm0,hm1,rfl,rfl,hl,hb⟩:=hrel;by_cases hlt:0<m
  · have hsz:(ofL l).size<=100000001:=by
     have:=hl.out;rw [if_neg om_] at this;have:=congrArg List.length this;rw [List.length_append] at this;rw [ofL_size];omega
    have HN:Hid (dec K=if m / 10=0 then UInt8.ofNat (48+m % 10).toNat::l else dec (m / 10)++(UInt8.ofNat (48+m % 10).toNat::l)):=by
     have h:=hl.out;rw [if_neg om_] at h;by_cases h10:m<10
     · rw [dec_lt m h10] at h
       rw [if_pos om_,show m % 10=m by omega];exact h
     · rw [dec_ge m om_] at h
       rw [if_neg om_];exact h.trans sm_
    go_wp2;go_roundw
    case rel=>exact ⟨m / 10,_,om_,om_,rfl,by rw [cons_ofL],HN,hb.alloc hb.size _⟩
    case measure=>simp [intOf];omega
  · obtain rfl:m=0:=om_
    have HN:Hid (dec K=l):=by have h:=hl.out;rwa [if_pos rfl] at h
    have hsz:(ofL l).size<=100000001:=by rw [ofL_size,<- HN.out];exact hdl
    go_wp2;go_ret;exact ⟨ret_str (by rw [HN.out];simp only [one_ofL,cat_ofL];rfl),hb⟩
def mkL (K:Int) (i:Nat):L4:=⟨((K+4*(i:Int)) % 3==0),ofL (109::dec (K+4*(i:Int)+1)),K+4*(i:Int)+2,ofL (109::dec (K+4*(i:Int)+3))⟩
def MarksAt (K:Int) (w:World) (b k:Nat):Prop:=∀ j,j<k->w.cell? ⟨b,j*4,none⟩=some (.bool (mkL K j).has)/\w.cell? ⟨b,j*4+1,none⟩=some (.string (mkL K j).nm)/\w.cell? ⟨b,j*4+2,none⟩=some (.int .i64 (mkL K j).cd)/\w.cell? ⟨b,j*4+3,none⟩=some (.string (mkL K j).tx)
def Open4 (w:World) (b n:Nat):Prop:=b<w.heap.size/\(∀ j,j<n*4->∃ v,w.cell? ⟨b,j,none⟩=some v)/\∀ j,w.frozen? ⟨b,j,none⟩=false
theorem Open4.below {w w':World} {b n:Nat} (h:Open4 w b n) (hb:Below w.heap.size w w'):Open4 w' b n:=
 ⟨Nat.lt_of_lt_of_le h.1 hb.size,fun j hj=>by rw [hb.cell (by exact h.1)];exact h.2.1 j hj,fun j=>by rw [hb.frozen (by exact h.1)];exact h.2.2 j⟩
theorem Open4.set {w:World} {b n j:Nat} {v:Value} (h:Open4 w b n) (hj:j<n*4):Open4 (w.setCell ⟨b,j,none⟩ v) b n:=by
 refine ⟨by simpa using h.1,fun i hi=>?_,fun i=>by have:=h.2.2 i;simpa using this⟩;by_cases e:i=j
 · subst e
   obtain ⟨x,hx⟩:=h.2.1 i hi;exact ⟨v,World.cell?_setCell_same _ _ _ hx⟩
 · rw [World.cell?_setCell_other _ _ _ _ (adr_ne (Ne.symm e))]
   exact h.2.1 i hi
theorem marks_below {K:Int} {w w':World} {b k:Nat} (h:MarksAt K w b k) (hlt:b<w.heap.size) (hb:Below w.heap.size w w'):MarksAt K w' b k:=by
 intro j hj;rw [hb.cell (by exact hlt),hb.cell (by exact hlt),hb.cell (by exact hlt),hb.cell (by exact hlt)];exact h j hj
theorem marks_set {K:Int} {w:World} {b k j:Nat} {v:Value} (h:MarksAt K w b k) (hj:k*4<=j):MarksAt K (w.setCell ⟨b,j,none⟩ v) b k:=by
 intro i hi;rw [World.cell?_setCell_other _ _ _ _ (adr_ne om_),World.cell?_setCell_other _ _ _ _ (adr_ne om_),World.cell?_setCell_other _ _ _ _ (adr_ne om_),World.cell?_setCell_other _ _ _ _ (adr_ne om_)];exact h i hi
theorem marks_snoc {K:Int} {w:World} {b k:Nat} (h:MarksAt K w b k) (h0:w.cell? ⟨b,k*4,none⟩=some (.bool (mkL K k).has)) (h1:w.cell? ⟨b,k*4+1,none⟩=some (.string (mkL K k).nm)) (h2:w.cell? ⟨b,k*4+2,none⟩=some (.int .i64 (mkL K k).cd)) (h3:w.cell? ⟨b,k*4+3,none⟩=some (.string (mkL K k).tx)):MarksAt K w b (k+1):=by
 intro i hi;by_cases e:i=k
 · subst e;exact ⟨h0,h1,h2,h3⟩
 · exact h i om_
end Go.Proofs.YtlckdgjfniglfaaGreatDoor
