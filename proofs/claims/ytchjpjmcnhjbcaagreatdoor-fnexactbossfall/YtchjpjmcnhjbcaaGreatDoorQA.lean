import Derived.Test.YtchjpjmcnhjbcaaGreatDoorEP1
import Derived.Laws.Rows
import Derived.Laws.IdiomCopy
import Derived.Maps.OwnSet
import Derived.Maps.Ext
import Derived.Sort.KeysCollected
import Derived.Lib.SlKeysI
import Derived.Lib.SlMapMerge
import Derived.Deep.RegionHeld3
set_option linter.unusedVariables false
set_option maxRecDepth 100000
set_option maxHeartbeats 8000000
namespace Go.Proofs.YtchjpjmcnhjbcaaGreatDoor
open Proofs.Tryz Go.RowKit
variable {u u':World} {B B' N:Nat} {vs:List Value}
def D5 (u:World) (B:Nat) (vs:List Value):Prop:=∀ j v,vs[j]?=some v->u.cell? ⟨B,j,none⟩=some v
def X6 (u:World) (B:Nat):Prop:=∀ j,u.frozen? ⟨B,j,none⟩=false
theorem Z7 (w:World) (vs:List Value) (t:TypeId):D5 (w.alloc (.cells vs.toArray t)) w.heap.size vs:=fun j v h=>by
 simp [go_sem,h]
theorem Qa (w:World) (a:Array Value) (t:TypeId):X6 (w.alloc (.cells a t)) w.heap.size:=fun j=>by simp [go_sem]
theorem D5.below (h:D5 u B vs) (a:Below N u u') (b:B<N):D5 u' B vs:=fun j v e=>(a.cell (p:=⟨B,j,none⟩) b).trans (h j v e)
theorem X6.below (h:X6 u B) (a:Below N u u') (b:B<N):X6 u' B:=fun j=>(a.frozen (p:=⟨B,j,none⟩) b).trans (h j)
theorem D5.set (h:D5 u B vs) (j:Nat) (v:Value) (b:j<vs.length):D5 (u.setCell ⟨B,j,none⟩ v) B (vs.set j v):=fun i x e=>by
 rcases Nat.decEq i j with a | rfl
 · rw [Na _ _ _ _ (Ed (fun e=>a e.symm))];rw [jD (fun h=>a h.symm)] at e;exact h i x e
 · rw [VH b] at e;obtain rfl:=w_ e;exact jg _ _ _ (h i _ (Z8 b))
theorem D5.other (h:D5 u B vs) (p:Addr) (v:Value) (a:p.block≠B):D5 (u.setCell p v) B vs:=fun i x e=>by
 rw [Na _ _ _ _ (fun h=>a (by rw [h]))];exact h i x e
theorem X6.set (h:X6 u B) (p:Addr) (v:Value):X6 (u.setCell p v) B:=fun j=>by simpa using h j
def fill (u:World) (B:Nat):Nat->List Value->World
 | _,[]=>u
 | j,v::vs=>fill (u.setCell ⟨B,j,none⟩ v) B (j+1) vs
theorem D5.fill (vs:List Value):∀ {u:World} (pre old post:List Value) (j:Nat),D5 u B (pre++old++post)->old.length=vs.length->j=pre.length->D5 (fill u B j vs) B (pre++vs++post):=by
 induction vs with
 | nil=>intro u pre old post j h hl _;obtain rfl:old=[]:=Va.1 hl;exact h
 | cons v vs ih=>
  intro u pre old post j h hl a
  match old,hl with
  | o::old,hl=>
   subst a;have h1:=h.set pre.length v X4;have e:(pre++(o::old)++post).set pre.length v=(pre++[v])++old++post:=X4;rw [e] at h1;have:=ih (pre++[v]) old post (pre.length+1) h1 (by simpa using hl) X4;have b:pre++[v]++vs++post=pre++(v::vs)++post:=X4;rw [b] at this;exact this
theorem D5.IX (a:B≠B') (vs:List Value):∀ {u:World} {xs:List Value} (j:Nat),D5 u B' xs->D5 (Go.Proofs.YtchjpjmcnhjbcaaGreatDoor.fill u B j vs) B' xs:=by
 induction vs with
 | nil=>intro u xs j h;exact h
 | cons v vs ih=>intro u xs j h;exact ih (j+1) (h.other (aA B j) v a)
theorem X6.fill (vs:List Value):∀ {u:World} (j:Nat),X6 u B'->X6 (Go.Proofs.YtchjpjmcnhjbcaaGreatDoor.fill u B j vs) B':=by
 induction vs with
 | nil=>intro u j h;exact h
 | cons v vs ih=>intro u j h;exact ih (j+1) (h.set (aA B j) v)
theorem x_ {w:World} (a:N<=B) (vs:List Value):∀ {u:World} (j:Nat),Below N w u->Below N w (fill u B j vs):=by
 induction vs with
 | nil=>intro u j h;exact h
 | cons v vs ih=>intro u j h;exact ih (j+1) (h.setCell (p:=(aA B j)) a v)
theorem Vf (vs:List Value):∀ {u:World} (j:Nat),(fill u B j vs).heap.size=u.heap.size:=by
 induction vs with
 | nil=>intro u j;rfl
 | cons v vs ih=>intro u j;exact (ih (j+1)).trans X4
theorem a4b (c:Int) (w:World) (hc:c=0\/c=1\/c=2\/c=3\/c=4\/c=5\/c=7):
 Calls prog 332 #[.int .i64 c] w fun e w'=>e=.returned (.string (J3 [UInt8.ofNat (48+c).toNat]))/\w'=w:=by
 rcases hc with rfl | rfl | rfl | rfl | rfl | rfl | rfl
 all_goals
  go_enter func332,ntmps332;go_wp2;go_ret;exact ⟨rfl,rfl⟩
theorem a1P (c:Int) (w:World) (hc:c=0\/c=1\/c=2\/c=3\/c=4\/c=5\/c=7):
 Calls prog 321 #[.int .i64 c,.int .i64 10] w fun e w'=>e=.returned (.string (J3 [UInt8.ofNat (48+c).toNat]))/\w'=w:=by
 have h1:0<=c:=O0;have h2:c<100:=O0;have H:=a4b c w hc;clear hc;go_enter func321,ntmps321
 go_wp2_with (go_at_call 332;refine H.mono ?_;rintro e w' ⟨rfl,rfl⟩)
 go_ret;exact ⟨rfl,rfl⟩
theorem a1L (c:Int) (w:World) (hc:c=0\/c=1\/c=2\/c=3\/c=4\/c=5\/c=7):
 Calls prog 297 #[.int .i64 c] w fun e w'=>e=.returned (.string (J3 [UInt8.ofNat (48+c).toNat]))/\w'=w:=by
 have H:=a1P c w hc;go_enter func297,ntmps297
 go_wp2_with (go_at_call 321;refine H.mono ?_;rintro e w' ⟨rfl,rfl⟩)
 go_ret;exact ⟨rfl,rfl⟩
theorem a2V (c:Int) (w:World) (hc:c=0\/c=1\/c=2\/c=3\/c=4\/c=5\/c=7):
 Calls prog 282 #[.int .i64 c] w fun e w'=>e=.returned (.string (J3 [UInt8.ofNat (48+c).toNat]))/\w'=w:=by
 have H:=a1L c w hc;go_enter func282,ntmps282
 go_wp2_with (go_at_call 297;refine H.mono ?_;rintro e w' ⟨rfl,rfl⟩)
 go_ret;exact ⟨rfl,rfl⟩
theorem ET (c:Int) (s:BY) (w:World) (f:s.size<=1048700):
 Calls prog 256 #[.agg #[.int .i64 c,.string s]] w fun e w'=>e=.returned (.string (J3 (O8 c s.data.toList)))/\Bw w w':=by
 go_enter func256,ntmps256
 go_wp2_with fail
 refine (pM _ _ _ f).mono ?_;rintro e d ⟨rfl,a⟩;have b:=((Z4 w.heap.size w).alloc H8 (.cells #[vI c,vS s] 103)).trans (a.mono X4);have g10:d.cell? (aW w 0)=some (vI c):=by rw [a.cell X4];simp
 have g11:d.cell? (aW w 1)=some (vS s):=by rw [a.cell X4];simp
 cases hv:vr c s.data.toList
 · have hF:=DK hv;go_wp2;go_ret;exact ⟨hF,b⟩
 · have hc:=zh hv;have hF:Hid (J3 (O8 c s.data.toList)=J3 [UInt8.ofNat (48+c).toNat]++⟨#[58]⟩++s):=EF hv;have hz:(J3 [UInt8.ofNat (48+c).toNat]).size=1:=rfl;clear hv
   go_wp2_with fail
   go_region_with (go_at_call 282;refine (a2V _ _ hc).mono ?_;rintro e w' ⟨rfl,rfl⟩)
   all_goals go_wp2
   all_goals go_ret
   all_goals exact ⟨by rw [hF.out];rfl,by first | exact b | exact b.drew⟩
theorem fill_eq (B:Nat) (vs:List Value):∀ (u:World) (j:Nat),fill u B j vs=u.setCells B j vs:=by
 induction vs with
 | nil=>intro u j;rfl
 | cons v vs ih=>intro u j;exact ih _ _
theorem Ag (B o j:Nat):(⟨B,o,none⟩:Addr).add j=⟨B,o+j,none⟩:=by unfold Addr.add;split <;> simp_all
section
variable {P:Program}
theorem Ef (w:World) (B:Nat) (ty:TypeId) (cs:List Value) (d:TypeDesc) (hc:D5 w B cs)
 (b:P.underlying ty=some d) (hd:(match d with | .struct _ | .array _ _=>true | _=>false)=true) (a:(P.info? ty).map (·.size)=some cs.length):
 (loadVar ty ⟨B,0,none⟩).run P w=.ok (.agg cs.toArray) w:=by
 have hl:(loadCells (aA B 0) cs.length).run P w=.ok cs.toArray w:=
  run_loadCells_list (P:=P) w (aA B 0) cs (fun j v hv=>by rw [Ag,L8];exact hc j v hv)
 cases hq:P.info? ty with
 | none=>simp [hq] at a
 | some i=>
  have c:i.size=cs.length:=by simpa [hq] using a
  have e:(isAgg ty).run P w=.ok true w:=by
   unfold isAgg;rw [qi,Wq b w];cases d <;> simp_all
  simp [loadVar,e,sizeOf,typeInfo,hq,c,hl]
theorem Xa {ops:Array Oper} {rest:List Oper} {o:Oper} {a:Act} {w:World} {Q:Exit->Act->World->Prop} (e:o.guard=none) (ty:TypeId) (x:Operand) (ho:o.op=.load ty x)
 (B:Nat) (hx:a.eval x=.pointer (some ⟨B,0,none⟩)) (cs:List Value) (d:TypeDesc) (hc:D5 w B cs)
 (b:P.underlying ty=some d) (hd:(match d with | .struct _ | .array _ _=>true | _=>false)=true) (c:(P.info? ty).map (·.size)=some cs.length)
 (h:wpList P ops Q rest (a.put o.dst (.agg cs.toArray)) w):wpList P ops Q (o::rest) a w:=by
 refine cu e fun K f=>?_;unfold Oper.wp execOp;simp only [ho,hx,Instr.loadAt,Instr.sureAddr,qi,Ro,ak,Ef w B ty cs d hc b hd c];exact f _ _ h
theorem uh (w:World) (B j:Nat) (ty:TypeId) (vs:List Value) (hc:∀ i,i<vs.length->(w.cell? ⟨B,j+i,none⟩).isSome=true) (hf:X6 w B) (h1:∀ v∈vs,v.oneCell'=true)
 (b:(P.info? ty).map (·.size)=some vs.length):
 (storeVar ty ⟨B,j,none⟩ (.agg vs.toArray)).run P w=.ok () (fill w B j vs):=by
 have a:=run_storeCells_cells (P:=P) B j vs 0 w (fun i h=>by simpa using hc i h) (fun i _=>hf _) h1;rw [En,<- fill_eq] at a
 cases hq:P.info? ty with
 | none=>simp [hq] at b
 | some i=>
  have c:i.size=vs.length:=by simpa [hq] using b
  simp [storeVar,Value.cells,sizeOf,typeInfo,hq,c,a]
theorem N7 {ops:Array Oper} {rest:List Oper} {o:Oper} {a:Act} {w:World} {Q:Exit->Act->World->Prop} (e:o.guard=none) (ty:TypeId) (x y:Operand) (ho:o.op=.store ty x y)
 (B j:Nat) (hx:a.eval x=.pointer (some ⟨B,j,none⟩)) (vs:List Value) (c:a.eval y=.agg vs.toArray) (hc:∀ i,i<vs.length->(w.cell? ⟨B,j+i,none⟩).isSome=true) (hf:X6 w B) (h1:∀ v∈vs,v.oneCell'=true)
 (d:(P.info? ty).map (·.size)=some vs.length) (f:o.dst=none)
 (h:wpList P ops Q rest a (fill w B j vs)):wpList P ops Q (o::rest) a w:=by
 refine cu e fun K b=>?_;unfold Oper.wp execOp;simp only [ho,hx,c,Instr.storeAt,Instr.sureAddr,qi,Ro,ak,uh w B j ty vs hc hf h1 d]
 first
  | exact b _ _ h
  | (simp only [Oper.upon];exact b _ _ h)
  | (simp only [Oper.upon,f];exact b _ _ h)
theorem Q8 {fn:Func} {p:Tmp} {ty:TypeId} (h:fn.results=#[.cell p ty]) (tmps:Array Value) (w:World) (B:Nat) (cs:List Value) (d:TypeDesc)
 (c:tmps.getD p undef=.pointer (some ⟨B,0,none⟩)) (hc:D5 w B cs)
 (a:P.underlying ty=some d) (hd:(match d with | .struct _ | .array _ _=>true | _=>false)=true) (e:(P.info? ty).map (·.size)=some cs.length):
 (results fn tmps).run P w=.ok (.agg cs.toArray) w:=by
 have b:tmps[p]?.getD undef=.pointer (some (aA B 0)):=by simpa using c
 simp [results,h,b,asAddr,Ef w B ty cs d hc a hd e]
end
end Go.Proofs.YtchjpjmcnhjbcaaGreatDoor
namespace Go.Proofs.YtchjpjmcnhjbcaaGreatDoor
open Go.RowKit Go.Maps
variable {a:Act} {b k:BY} {l:List (ByteArray×Value)} {v:Value} {P:Program} {ops:Array Oper} {Q:Exit->Act->World->Prop} {md:Region.Mode} {S:World->Prop} {fuel i:Nat} {listed:Array Bool} {w:World} {d:Option Nat} {op:Op} {ty:TypeId} {p:String} {af:Array Edge} {g:Option (Nat×Bool)}
def Ja (v:Value):Option (DataW Value×List MemPlace):=some (.held v,[])
def kS (s:BY):Lit:=.string s.data.toList
def eS (p:BY×Value):Lit×DataW Value:=(kS p.1,.held p.2)
def mapD (l:List (ByteArray×Value)):DataW Value:=.map (l.map eS)
def Zq (a b:BY):Bool:=bytesBefore a.data.toList b.data.toList
def yg (x:BY×Value):List (ByteArray×Value)->List (ByteArray×Value)
 | []=>[x]
 | y::r=>if Zq x.1 y.1 then x::y::r else y::yg x r
def Asc (l:List (ByteArray×Value)):Prop:=l.Pairwise fun p q=>Zq p.1 q.1=true
def T_ (l:List (ByteArray×Value)) (k:BY):Option Value:=(l.find? fun p=>decide (p.1=k)).map (·.2)
theorem pK {a:BY} (h:a.data.toList=b.data.toList):a=b:=by
 apply Df;exact Yk.1 h
theorem Uw (a b:BY):(kS a).sameKey (kS b)=decide (a=b):=by
 show (a.data.toList==b.data.toList)=decide (a=b);by_cases h:a=b
 · simp [h]
 · rw [S9 h];exact p_.2 (fun e=>h (pK e))
theorem PK (l:List (ByteArray×Value)) (k:BY) (z:DataW Value):(mapD l).atKey (kS k) z=match T_ l k with | some v=>.held v | none=>z:=by
 unfold mapD DataW.atKey T_;simp only [List.find?_map];have e:((fun p:Lit×DataW Value=>p.1.sameKey (kS k))∘eS)=fun p=>decide (p.1=k):=funext fun p=>Uw p.1 k;rw [e];cases List.find? (fun p:BY×Value=>decide (p.1=k)) l <;> rfl
theorem sO (l:List (ByteArray×Value)) (k:BY):has (mapD l) (kS k)=(T_ l k).isSome:=by
 show (l.map eS).any (fun p=>p.1.sameKey (kS k))=_;rw [List.any_map];have e:((fun p:Lit×DataW Value=>p.1.sameKey (kS k))∘eS)=fun p=>decide (p.1=k):=funext fun p=>Uw p.1 k;rw [e];unfold T_;rw [Option.isSome_map,Bool.eq_iff_iff];simp
theorem Zb (l:List (ByteArray×Value)):size (mapD l)=l.length:=by
 show (l.map eS).length=_;simp
theorem AB (l:List (ByteArray×Value)):strKeys (mapD l)=l.map fun p=>p.1.data.toList:=by
 show (l.map eS).map _=_;simp [eS,kS,strOf,Function.comp_def]
theorem sK (x:BY×Value) (l:List (ByteArray×Value)):(yg x l).map eS=DataW.insert (eS x) (l.map eS):=by
 induction l with
 | nil=>rfl
 | cons y r ih=>
  unfold yg;show _=if (kS x.1).before (kS y.1)=true then _ else _;show List.map eS (if bytesBefore x.1.data.toList y.1.data.toList=true then _ else _)=if bytesBefore x.1.data.toList y.1.data.toList=true then _ else _;split
  · rfl
  · simp [ih]
theorem Y_:T_ l k=none↔∀ p∈l,p.1≠k:=by
 unfold T_;simp
theorem KA (v:Value) (h:T_ l k=none):(mapD l).put (kS k) (.held v)=mapD (yg (k,v) l):=by
 show DataW.map (DataW.insert (eS (k,v)) ((l.map eS).filter fun p=>!p.1.sameKey (kS k)))=DataW.map ((yg (k,v) l).map eS);rw [sK]
 congr 2
 rw [iJ];intro p b;obtain ⟨q,a,rfl⟩:=Pm.1 b;show (!(kS q.1).sameKey (kS k))=true;rw [Uw,S9 (Y_.1 h q a)];rfl
theorem Yc (x:BY×Value) (l:List (ByteArray×Value)):(yg x l).Perm (x::l):=by
 induction l with
 | nil=>exact OD _
 | cons y r ih=>
  unfold yg;split
  · exact OD _
  · exact (ih.cons y).trans (List.Perm.swap x y r)
theorem Wl (a:BY):Zq a a=false:=WideAt.bytes_irrefl _
theorem Az {a c:BY} (h:Zq a b=true) (d:Zq b c=true):Zq a c=true:=WideShapes.bytes_trans _ _ _ h d
theorem ZK {a:BY} (h:a≠b):Zq a b=true\/Zq b a=true:=WideAt.bytes_total _ _ (fun e=>h (pK e))
theorem Qr {x:BY×Value} (h:Asc l) (hx:∀ p∈l,p.1≠x.1):Asc (yg x l):=by
 induction l with
 | nil=>exact List.pairwise_singleton _ _
 | cons y r ih=>
  have c:=Py.1 h;unfold yg;split
  · rename_i b;exact Py.2 ⟨fun p a=>by
     rcases Jd.1 a with rfl | a
     · exact b
     · exact Az b (c.1 p a),h⟩
  · rename_i b;have d:=(ZK (hx y (Zp ..))).elim id (fun e=>absurd e b);refine Py.2 ⟨fun p a=>?_,ih c.2 (fun p a=>hx p (Rf _ a))⟩;rcases Jd.1 ((Yc x r).mem_iff.1 a) with rfl | a
    · exact d
    · exact c.1 p a
theorem RY {c:List (ByteArray×Value)} (h:Asc l) (e:Asc c) (d:l.Perm c):l=c:=by
 refine List.Perm.eq_of_pairwise (le:=fun (p q:BY×Value)=>Zq p.1 q.1=true) (fun a b _ _ h1 h2=>?_) h e d;have:=Az h1 h2;rw [Wl] at this;cases this
theorem Hz (h:T_ l k=some v):(k,v)∈l:=by
 unfold T_ at h;obtain ⟨p,a,rfl⟩:=dA.1 h;have h1:=DT a;have h2:=XH a;simp at h2;rw [<- h2];exact h1
theorem Gn (h:Asc l) {k:BY} {v:Value} (hm:(k,v)∈l):T_ l k=some v:=by
 induction l with
 | nil=>cases hm
 | cons y r ih=>
  have a:=Py.1 h;rcases Jd.1 hm with rfl | hm
  · simp [T_]
  · have b:y.1≠k:=fun e=>by
     have:=a.1 _ hm;rw [e] at this;simp only [Wl] at this;cases this
    have hr:=ih a.2 hm;unfold T_ at hr ⊢;rw [List.find?_cons_of_neg (by simpa using b)];exact hr
theorem OI (f l:List (ByteArray×Value)) (hf:Asc f) (hl:Asc l) (hd:∀ p∈f,T_ l p.1=none):Asc (f.foldl (fun a p=>yg p a) l)/\(f.foldl (fun a p=>yg p a) l).Perm (f++l)/\Lib.mergeD (mapD l) (mapD f)=mapD (f.foldl (fun a p=>yg p a) l):=by
 show _/\_/\(f.map eS).foldl (fun D p=>D.put p.1 p.2) (mapD l)=_
 induction f generalizing l with
 | nil=>exact ⟨hl,OD _,rfl⟩
 | cons y r ih=>
  have g:=Py.1 hf;have c:=hd y (Zp ..);obtain ⟨j,i,h⟩:=ih (yg y l) g.2 (Qr hl (Y_.1 c)) (fun p d=>Y_.2 (fun q b=>by
   rcases Jd.1 ((Yc y l).mem_iff.1 b) with rfl | b
   · intro e;have:=g.1 p d;rw [e,Wl] at this;cases this
   · exact Y_.1 (hd p (Rf _ d)) q b))
  refine ⟨j,?_,?_⟩
  · show (List.foldl (fun a p=>yg p a) (yg y l) r).Perm (y::(r++l));exact i.trans (((Yc y l).append_left r).trans List.perm_middle)
  · show (r.map eS).foldl (fun D p=>D.put p.1 p.2) ((mapD l).put (kS y.1) (.held y.2))=_;rw [KA y.2 c];exact h
theorem jG:∀ (a b:List UInt8),bytesBefore a b=true->a<=b
 | [],_,_=>List.nil_le _
 | _::_,[],h=>by simp [bytesBefore] at h
 | x::r,y::s,h=>by
  simp [bytesBefore] at h;rcases h with h | ⟨rfl,h⟩
  · exact List.le_of_lt (List.Lex.rel h)
  · exact List.cons_le_cons_iff.2 (.inr ⟨rfl,jG r s h⟩)
theorem CG (h:Asc l) {ss:List (List UInt8)} (a:ss.Perm (strKeys (mapD l))):ss.mergeSort (fun x y=>decide (x<=y))=l.map fun p=>p.1.data.toList:=by
 rw [AB] at a;have e:=mergeSort_of_perm a;show ss.mergeSort leB=_;rw [e];apply YS;refine List.pairwise_map.2 (h.imp fun {p q} hb=>?_);simpa [leB] using jG _ _ hb
def iE (i:Nat) (v:Value):Lit×DataW Value:=(.int .i64 i,.held v)
def intD (vs:List Value):DataW Value:=.map ((List.range vs.length).map fun i=>iE i (vs.getD i undef))
theorem Rk (vs:List Value):size (intD vs)=vs.length:=by
 show ((List.range vs.length).map fun i=>iE i (vs.getD i undef)).length=_;simp
theorem lC (vs:List Value):intKeys (intD vs)=(List.range vs.length).map fun i:Nat=>(i:Int):=by
 show ((List.range vs.length).map fun i=>iE i (vs.getD i undef)).map _=_;simp [iE,Go.intOf,Function.comp_def]
theorem zV (vs:List Value) (k:Nat) (z:DataW Value):(intD vs).atKey (.int .i64 k) z=if k<vs.length then .held (vs.getD k undef) else z:=by
 unfold intD DataW.atKey;simp only [List.find?_map];have e:((fun p:Lit×DataW Value=>p.1.sameKey (.int .i64 k))∘fun i=>iE i (vs.getD i undef))=fun i=>decide (i=k):=funext fun i=>by simp [iE,Lit.sameKey];omega
 rw [e];by_cases h:k<vs.length
 · rw [X7 h];have:List.find? (fun i=>decide (i=k)) (List.range vs.length)=some k:=by
    cases hq:List.find? (fun i=>decide (i=k)) (List.range vs.length) with
    | none=>exact absurd (Pz.1 hq k (Lr.2 h)) X4
    | some j=>have:=XH hq;simp at this;rw [this]
   rw [this];rfl
 · rw [I7 h];have:List.find? (fun i=>decide (i=k)) (List.range vs.length)=none:=Pz.2 (fun j a=>by have:=Lr.1 a;simp;omega);rw [this];rfl
theorem mO (x:Lit×DataW Value) (l:List (Lit×DataW Value)) (h:∀ p∈l,x.1.before p.1=false):DataW.insert x l=l++[x]:=by
 induction l with
 | nil=>rfl
 | cons y r ih=>
  unfold DataW.insert;rw [h y (Zp ..),ih (fun p a=>h p (Rf _ a))];simp
theorem FQ (vs:List Value) (v:Value):(intD vs).put (.int .i64 vs.length) (.held v)=intD (vs++[v]):=by
 show DataW.map (DataW.insert (iE vs.length v) (((List.range vs.length).map fun i=>iE i (vs.getD i undef)).filter fun p=>!p.1.sameKey (.int .i64 vs.length)))=DataW.map ((List.range (vs++[v]).length).map fun i=>iE i ((vs++[v]).getD i undef))
 congr 1
 rw [iJ.2,mO]
 · rw [D9,Si,pF,Og]
   congr 1
   · apply Ku;intro i a;have:=Lr.1 a;unfold iE;simp [List.getD,S_ this]
   · simp [iE,List.getD]
 · intro p b;obtain ⟨i,a,rfl⟩:=Pm.1 b;have:=Lr.1 a;show decide ((vs.length:Int)<(i:Int))=false;simp;omega
 · intro p b;obtain ⟨i,a,rfl⟩:=Pm.1 b;have:=Lr.1 a;simp [iE,Lit.sameKey];omega
theorem gG {vs:List Value} {ss:List Int} (a:ss.Perm (intKeys (intD vs))):ss.mergeSort (fun x y=>decide (x<=y))=(List.range vs.length).map fun i:Nat=>(i:Int):=by
 rw [lC] at a;have e:=mergeSort_of_perm_i a;show ss.mergeSort leI=_;rw [e];apply YS;refine List.pairwise_map.2 (List.pairwise_lt_range.imp fun {p q} hb=>?_);simp [leI];omega
theorem qq:(∀ (a:Act) (d:Nat) (v:Value),a.put (some d) v={ a with tmps:=a.tmps.setIfInBounds d v })/\(∀ (a:Act) (v:Value),a.put none v=a)/\(∀ {α:Type} (l:List α) (i:Nat) (a:α),l.toArray.setIfInBounds i a=(l.set i a).toArray)/\(∀ {α:Type} (x:α) (l:List α) (a:α),(x::l).set 0 a=a::l)/\∀ {α:Type} (x:α) (l:List α) (i:Nat) (a:α),(x::l).set (i+1) a=x::l.set i a:=⟨fun _ _ _=>rfl,fun _ _=>rfl,fun _ _ _=>YP ..,fun _ _ _=>rfl,fun _ _ _ _=>rfl⟩
theorem rd {o:Oper} (ho:ops[i]?=some o) (hr:Region.ready md ops listed=[i]) (h:∀ b:Act->World->Prop,Shut (∀ a w,S w->(S w->wpAnyH P md ops Q S fuel (listed.setIfInBounds i true) a w)->b a w)->if Region.wanted o (yielded ops a.tmps)=true then Oper.wp P o a w b Q else b (a.put o.dst undef) w):wpAnyH P md ops Q S (fuel+1) listed a w:=wpAnyH_ready hr X4 (AllReadyH.cons ho h AllReadyH.nil)
theorem tk {b:Oper} (e:ops[i]?=some b) (d:(Region.noSelect ops&&Region.free md ops listed i&&(Region.ready md ops listed).contains i)=true) (hw:Region.wanted b (yielded ops a.tmps)=true) (hv:∀ u,S u->(execOp a.eval b).run P u=.ok (.value v) u) (f:S w) (h:wpAnyH P md ops Q S fuel (listed.setIfInBounds i true) (a.put b.dst v) w) (hQ:∀ c a w,Q (.panic c) (a.put b.dst v) w->Q (.panic c) a w:=by exact fun _ _ _ h=>h):wpAnyH P md ops Q S (fuel+1) listed a w:=by
 simp only [V_] at d;exact wpAnyH_take e d.1.1 d.1.2 d.2 hQ (.inl ⟨hw,hv⟩) f h
theorem tu {b:Oper} (e:ops[i]?=some b) (d:(Region.noSelect ops&&Region.free md ops listed i&&(Region.ready md ops listed).contains i)=true) (hw:Region.wanted b (yielded ops a.tmps)=false) (f:S w) (h:wpAnyH P md ops Q S fuel (listed.setIfInBounds i true) (a.put b.dst undef) w) (hQ:∀ c a w,Q (.panic c) (a.put b.dst undef) w->Q (.panic c) a w:=by exact fun _ _ _ h=>h):wpAnyH P md ops Q S (fuel+1) listed a w:=by
 simp only [V_] at d;exact wpAnyH_take e d.1.1 d.1.2 d.2 hQ (.inr ⟨hw,rfl⟩) f h
theorem tq (i:Nat) (f:S w) (h:wpAnyH P md ops Q S fuel (listed.setIfInBounds i true) (a.put d v) w) (b:ops[i]?=some ⟨d,op,ty,p,af,g⟩:=by exact rfl) (e:(Region.noSelect ops&&Region.free md ops listed i&&(Region.ready md ops listed).contains i)=true:=by kernel_rfl) (hw:Region.wanted ⟨d,op,ty,p,af,g⟩ (yielded ops a.tmps)=true:=by exact rfl) (hv:∀ u,S u->(execOp a.eval ⟨d,op,ty,p,af,g⟩).run P u=.ok (.value v) u:=by intro wq hSw;(try dsimp only at hSw);go_simp;try with_reducible rfl) (hQ:∀ c a w,Q (.panic c) (a.put d v) w->Q (.panic c) a w:=by first | exact fun _ _ _ h=>h | exact fun _ _ _ h=>hQ _ _ _ _ _ h):wpAnyH P md ops Q S (fuel+1) listed a w:=tk b e hw hv f h hQ
theorem uq (i:Nat) (f:S w) (h:wpAnyH P md ops Q S fuel (listed.setIfInBounds i true) (a.put d undef) w) (b:ops[i]?=some ⟨d,op,ty,p,af,g⟩:=by exact rfl) (e:(Region.noSelect ops&&Region.free md ops listed i&&(Region.ready md ops listed).contains i)=true:=by kernel_rfl) (hw:Region.wanted ⟨d,op,ty,p,af,g⟩ (yielded ops a.tmps)=false:=by exact rfl) (hQ:∀ c a w,Q (.panic c) (a.put d undef) w->Q (.panic c) a w:=by first | exact fun _ _ _ h=>h | exact fun _ _ _ h=>hQ _ _ _ _ _ h):wpAnyH P md ops Q S (fuel+1) listed a w:=tu b e hw f h hQ
section
variable {P:Program} {ops:Array Oper} {md:Region.Mode} {v:Value} {fuel:Nat} {listed:Array Bool} {a:Act} {w:World} {d:Option Nat} {op:Op} {ty:TypeId} {p:String} {af:Array Edge}
theorem Y0 {Q:Exit->Act->World->Prop} {S:World->Prop} {g:Option (Nat×Bool)} {b:Act} (i:Nat) (h:wpAnyH P md ops Q S fuel (listed.setIfInBounds i true) b w) (j:S w:=by assumption) (e:ops[i]?=some ⟨d,op,ty,p,af,g⟩:=by exact rfl) (f:(Region.noSelect ops&&Region.free md ops listed i&&(Region.ready md ops listed).contains i)=true:=by kernel_rfl) (hw:Region.wanted ⟨d,op,ty,p,af,g⟩ (yielded ops a.tmps)=true:=by exact rfl) (hv:∀ u,S u->(execOp a.eval ⟨d,op,ty,p,af,g⟩).run P u=.ok (.value v) u:=by intro wq hSw;(try dsimp only at hSw);go_simp;try with_reducible rfl) (hQ:∀ c a w,Q (.panic c) (a.put d v) w->Q (.panic c) a w:=by first | exact fun _ _ _ h=>h | exact fun _ _ _ h=>hQ _ _ _ _ _ h) (k:a.put d v=b:=by first | (simp only [qq];rfl) | rfl):wpAnyH P md ops Q S (fuel+1) listed a w:=tq i j (k▸h) e f hw hv hQ
theorem E5 {Q:Exit->Act->World->Prop} {S:World->Prop} {g:Option (Nat×Bool)} {b:Act} (i:Nat) (h:wpAnyH P md ops Q S fuel (listed.setIfInBounds i true) b w) (j:S w:=by assumption) (e:ops[i]?=some ⟨d,op,ty,p,af,g⟩:=by exact rfl) (f:(Region.noSelect ops&&Region.free md ops listed i&&(Region.ready md ops listed).contains i)=true:=by kernel_rfl) (hw:Region.wanted ⟨d,op,ty,p,af,g⟩ (yielded ops a.tmps)=false:=by exact rfl) (hQ:∀ c a w,Q (.panic c) (a.put d undef) w->Q (.panic c) a w:=by first | exact fun _ _ _ h=>h | exact fun _ _ _ h=>hQ _ _ _ _ _ h) (k:a.put d undef=b:=by first | (simp only [qq];rfl) | rfl):wpAnyH P md ops Q S (fuel+1) listed a w:=uq i j (k▸h) e f hw hQ
theorem E8 {S:World->Prop} {X K:Act->World->Prop} {b:Act} (d:Shut (∀ a w,S w->(S w->X a w)->K a w)) (c:S w) (h:S w->X b w) (e:a=b:=by first | (simp only [qq];rfl) | rfl):K a w:=d.out _ _ c (e▸h)
theorem zH {S:World->Prop} {X K:Act->World->Prop} {b:Act} (d:Shut (∀ a w,S w->(S w->X a w)->K a w)) (h:S w->X b w) (c:S w:=by (try dsimp only);go_keep) (e:a=b:=by first | (simp only [qq];rfl) | rfl):K a w:=d.out _ _ c (e▸h)
theorem PL {S:World->Prop} {X K:Act->World->Prop} (c:Shut (∀ a w,S w->(S w->X a w)->K a w)) (h:S w->X a w) (b:S w:=by (try dsimp only);go_keep):K a w:=c.out _ _ b h
theorem wdn {Q:Exit->Act->World->Prop} {S:World->Prop} (h:Q .normal a w) (hr:Region.ready md ops listed=[]:=by kernel_rfl):wpAnyH P md ops Q S fuel listed a w:=wpAnyH_done hr h _
end
theorem rq {P:Program} {ops:Array Oper} {Q:Exit->Act->World->Prop} {md:Region.Mode} {S:World->Prop} {fuel:Nat} {listed:Array Bool} {a:Act} {w:World} {d:Option Nat} {op:Op} {ty:TypeId} {p:String} {af:Array Edge} {g:Option (Nat×Bool)} (i:Nat) (h:∀ b:Act->World->Prop,Shut (∀ a w,S w->(S w->wpAnyH P md ops Q S fuel (listed.setIfInBounds i true) a w)->b a w)->if Region.wanted ⟨d,op,ty,p,af,g⟩ (yielded ops a.tmps)=true then Oper.wp P ⟨d,op,ty,p,af,g⟩ a w b Q else b (a.put d undef) w) (ho:ops[i]?=some ⟨d,op,ty,p,af,g⟩:=by exact rfl) (hr:Region.ready md ops listed=[i]:=by kernel_rfl):wpAnyH P md ops Q S (fuel+1) listed a w:=rd ho hr h
