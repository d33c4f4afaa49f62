import Derived.Test.YtkdbheidpdjimaaGreatDoorEZA
import Derived.Laws.Rows
import Derived.Laws.IdiomCopy
set_option linter.unusedVariables false
set_option maxRecDepth 100000
set_option maxHeartbeats 8000000
namespace Go.Proofs.YtkdbheidpdjimaaGreatDoor
open Proofs.Tryz Go.RowKit
variable {u u':World} {B B' N:Nat} {vs:List Value}
def X4 (u:World) (B:Nat) (vs:List Value):Prop:=∀ j v,vs[j]?=some v->u.cell? ⟨B,j,none⟩=some v
def Y5 (u:World) (B:Nat):Prop:=∀ j,u.frozen? ⟨B,j,none⟩=false
theorem I5 (w:World) (vs:List Value) (t:TypeId):X4 (w.alloc (.cells vs.toArray t)) w.heap.size vs:=fun j v h=>by
 simp [go_sem,h]
theorem N8 (w:World) (a:Array Value) (t:TypeId):Y5 (w.alloc (.cells a t)) w.heap.size:=fun j=>by simp [go_sem]
theorem X4.below (h:X4 u B vs) (a:Below N u u') (b:B<N):X4 u' B vs:=fun j v e=>(a.cell (p:=⟨B,j,none⟩) b).trans (h j v e)
theorem Y5.below (h:Y5 u B) (a:Below N u u') (b:B<N):Y5 u' B:=fun j=>(a.frozen (p:=⟨B,j,none⟩) b).trans (h j)
theorem X4.set (h:X4 u B vs) (j:Nat) (v:Value) (b:j<vs.length):X4 (u.setCell ⟨B,j,none⟩ v) B (vs.set j v):=fun i x e=>by
 rcases Nat.decEq i j with a | rfl
 · rw [La _ _ _ _ (Xd (fun e=>a e.symm))];rw [List.getElem?_set_ne (fun h=>a h.symm)] at e;exact h i x e
 · rw [List.getElem?_set_self b] at e;obtain rfl:=Q9 e;exact Bf _ _ _ (h i _ (y9 b))
theorem X4.other (h:X4 u B vs) (p:Addr) (v:Value) (a:p.block≠B):X4 (u.setCell p v) B vs:=fun i x e=>by
 rw [La _ _ _ _ (fun h=>a (by rw [h]))];exact h i x e
theorem Y5.set (h:Y5 u B) (p:Addr) (v:Value):Y5 (u.setCell p v) B:=fun j=>by simpa using h j
def fill (u:World) (B:Nat):Nat->List Value->World
 | _,[]=>u
 | j,v::vs=>fill (u.setCell ⟨B,j,none⟩ v) B (j+1) vs
theorem X4.fill (vs:List Value):∀ {u:World} (pre old post:List Value) (j:Nat),X4 u B (pre++old++post)->old.length=vs.length->j=pre.length->X4 (fill u B j vs) B (pre++vs++post):=by
 induction vs with
 | nil=>intro u pre old post j h hl _;obtain rfl:old=[]:=Ya.1 hl;exact h
 | cons v vs ih=>
  intro u pre old post j h hl a
  match old,hl with
  | o::old,hl=>
   subst a;have h1:=h.set pre.length v I4;have e:(pre++(o::old)++post).set pre.length v=(pre++[v])++old++post:=I4;rw [e] at h1;have:=ih (pre++[v]) old post (pre.length+1) h1 (by simpa using hl) I4;have b:pre++[v]++vs++post=pre++(v::vs)++post:=I4;rw [b] at this;exact this
theorem X4.wW (a:B≠B') (vs:List Value):∀ {u:World} {xs:List Value} (j:Nat),X4 u B' xs->X4 (Go.Proofs.YtkdbheidpdjimaaGreatDoor.fill u B j vs) B' xs:=by
 induction vs with
 | nil=>intro u xs j h;exact h
 | cons v vs ih=>intro u xs j h;exact ih (j+1) (h.other (aA B j) v a)
theorem Y5.fill (vs:List Value):∀ {u:World} (j:Nat),Y5 u B'->Y5 (Go.Proofs.YtkdbheidpdjimaaGreatDoor.fill u B j vs) B':=by
 induction vs with
 | nil=>intro u j h;exact h
 | cons v vs ih=>intro u j h;exact ih (j+1) (h.set (aA B j) v)
theorem E_ {w:World} (a:N<=B) (vs:List Value):∀ {u:World} (j:Nat),Below N w u->Below N w (fill u B j vs):=by
 induction vs with
 | nil=>intro u j h;exact h
 | cons v vs ih=>intro u j h;exact ih (j+1) (h.setCell (p:=(aA B j)) a v)
theorem mg (vs:List Value):∀ {u:World} (j:Nat),(fill u B j vs).heap.size=u.heap.size:=by
 induction vs with
 | nil=>intro u j;rfl
 | cons v vs ih=>intro u j;exact (ih (j+1)).trans I4
theorem fill_eq (B:Nat) (vs:List Value):∀ (u:World) (j:Nat),fill u B j vs=u.setCells B j vs:=by
 induction vs with
 | nil=>intro u j;rfl
 | cons v vs ih=>intro u j;exact ih _ _
theorem Nb (B o j:Nat):(⟨B,o,none⟩:Addr).add j=⟨B,o+j,none⟩:=by unfold Addr.add;split <;> simp_all
section
variable {P:Program}
theorem Vf (w:World) (B:Nat) (ty:TypeId) (cs:List Value) (d:TypeDesc) (hc:X4 w B cs)
 (b:P.underlying ty=some d) (hd:(match d with | .struct _ | .array _ _=>true | _=>false)=true) (a:(P.info? ty).map (·.size)=some cs.length):
 (loadVar ty ⟨B,0,none⟩).run P w=.ok (.agg cs.toArray) w:=by
 have hl:(loadCells (aA B 0) cs.length).run P w=.ok cs.toArray w:=
  run_loadCells_list (P:=P) w (aA B 0) cs (fun j v hv=>by rw [Nb,E8];exact hc j v hv)
 cases hq:P.info? ty with
 | none=>simp [hq] at a
 | some i=>
  have c:i.size=cs.length:=by simpa [hq] using a
  have e:(isAgg ty).run P w=.ok true w:=by
   unfold isAgg;rw [Qk,Xo b w];cases d <;> simp_all
  simp [loadVar,e,sizeOf,typeInfo,hq,c,hl]
theorem X9 {ops:Array Oper} {b:List Oper} {o:Oper} {a:Act} {w:World} {Q:Exit->Act->World->Prop} (f:o.guard=none) (ty:TypeId) (x:Operand) (ho:o.op=.load ty x)
 (B:Nat) (hx:a.eval x=.pointer (some ⟨B,0,none⟩)) (cs:List Value) (d:TypeDesc) (hc:X4 w B cs)
 (c:P.underlying ty=some d) (hd:(match d with | .struct _ | .array _ _=>true | _=>false)=true) (e:(P.info? ty).map (·.size)=some cs.length)
 (h:wpList P ops Q b (a.put o.dst (.agg cs.toArray)) w):wpList P ops Q (o::b) a w:=by
 refine ou f fun K g=>?_;unfold Oper.wp execOp;simp only [ho,hx,Instr.loadAt,Instr.sureAddr,Qk,Uo,Un,Vf w B ty cs d hc c hd e];exact g _ _ h
theorem yh (w:World) (B j:Nat) (ty:TypeId) (vs:List Value) (hc:∀ i,i<vs.length->(w.cell? ⟨B,j+i,none⟩).isSome=true) (hf:Y5 w B) (h1:∀ v∈vs,v.oneCell'=true)
 (b:(P.info? ty).map (·.size)=some vs.length):
 (storeVar ty ⟨B,j,none⟩ (.agg vs.toArray)).run P w=.ok () (fill w B j vs):=by
 have a:=run_storeCells_cells (P:=P) B j vs 0 w (fun i h=>by simpa using hc i h) (fun i _=>hf _) h1;rw [Zo,<- fill_eq] at a
 cases hq:P.info? ty with
 | none=>simp [hq] at b
 | some i=>
  have c:i.size=vs.length:=by simpa [hq] using b
  simp [storeVar,Value.cells,sizeOf,typeInfo,hq,c,a]
theorem J7 {ops:Array Oper} {c:List Oper} {o:Oper} {a:Act} {w:World} {Q:Exit->Act->World->Prop} (f:o.guard=none) (ty:TypeId) (x y:Operand) (ho:o.op=.store ty x y)
 (B j:Nat) (hx:a.eval x=.pointer (some ⟨B,j,none⟩)) (vs:List Value) (d:a.eval y=.agg vs.toArray) (hc:∀ i,i<vs.length->(w.cell? ⟨B,j+i,none⟩).isSome=true) (hf:Y5 w B) (h1:∀ v∈vs,v.oneCell'=true)
 (e:(P.info? ty).map (·.size)=some vs.length) (g:o.dst=none)
 (h:wpList P ops Q c a (fill w B j vs)):wpList P ops Q (o::c) a w:=by
 refine ou f fun K b=>?_;unfold Oper.wp execOp;simp only [ho,hx,d,Instr.storeAt,Instr.sureAddr,Qk,Uo,Un,yh w B j ty vs hc hf h1 e]
 first
  | exact b _ _ h
  | (simp only [Oper.upon];exact b _ _ h)
  | (simp only [Oper.upon,g];exact b _ _ h)
theorem b_ {fn:Func} {p:Tmp} {ty:TypeId} (h:fn.results=#[.cell p ty]) (tmps:Array Value) (w:World) (B:Nat) (cs:List Value) (d:TypeDesc)
 (c:tmps.getD p undef=.pointer (some ⟨B,0,none⟩)) (hc:X4 w B cs)
 (a:P.underlying ty=some d) (hd:(match d with | .struct _ | .array _ _=>true | _=>false)=true) (e:(P.info? ty).map (·.size)=some cs.length):
 (results fn tmps).run P w=.ok (.agg cs.toArray) w:=by
 have b:tmps[p]?.getD undef=.pointer (some (aA B 0)):=by simpa using c
 simp [results,h,b,asAddr,Vf w B ty cs d hc a hd e]
end
end Go.Proofs.YtkdbheidpdjimaaGreatDoor
namespace Go.Proofs.YtkdbheidpdjimaaGreatDoor
open Proofs.Tryz Go.RowKit
def Vh (x:L4):Prop:=o6 x.nm.data.toList=true/\((x.has=true/\((x.cd=0/\x.tx=⟨#[]⟩)\/(x.cd=4/\x.tx=x.nm)))\/(x.has=false/\vr x.cd x.tx.data.toList=true))
def Tm (P:Prop) (e:Ending):Prop:=∃ r,e=.returned (.bool r)/\(r=true↔P)
theorem L_ {P:Prop} (h:¬ P):Tm P (.returned (.bool false)):=⟨false,rfl,⟨fun h=>absurd h Ql,fun k=>absurd k h⟩⟩
theorem Yj {P:Prop} (h:P):Tm P (.returned (.bool true)):=⟨true,rfl,⟨fun _=>h,fun _=>rfl⟩⟩
theorem Fj (x y:BY):x.toList=y.toList↔x=y:=⟨fun h=>by
 rw [ByteArray.toList_eq,ByteArray.toList_eq] at h;exact qg (Rl.1 h),fun h=>by rw [h]⟩
theorem gY (x:BY):x.toList=[]↔x=⟨#[]⟩:=by
 rw [ByteArray.toList_eq];exact ⟨fun h=>qg (Rl.1 h),fun h=>by rw [h]⟩
theorem qE {x:L4} (h:o6 x.nm.data.toList=false):¬ Vh x:=fun k=>absurd (k.1.symm.trans h) O6
theorem RP {x:L4} (b:o6 x.nm.data.toList=true) (a:x.has=false):Vh x↔vr x.cd x.tx.data.toList=true:=by
 constructor
 · rintro ⟨_,⟨h,_⟩ | ⟨_,h⟩⟩
   · rw [a] at h;cases h
   · exact h
 · exact fun h=>⟨b,.inr ⟨a,h⟩⟩
theorem WO {x:L4} (b:o6 x.nm.data.toList=true) (a:x.has=true):Vh x↔((x.cd=0/\x.tx.toList=[])\/(x.cd=4/\x.tx.toList=x.nm.toList)):=by
 rw [gY,Fj];constructor
 · rintro ⟨_,⟨_,h⟩ | ⟨h,_⟩⟩
   · exact h
   · rw [a] at h;cases h
 · exact fun h=>⟨b,.inl ⟨a,h⟩⟩
theorem a1L (x:L4) (w:World) (d:x.le 1048600):
 Calls prog 106 #[.agg #[.bool x.has,.string x.nm,.int .i64 x.cd,.string x.tx]] w fun e w'=>Tm (Vh x) e/\Bw w w':=by
 obtain ⟨s1,s2⟩:=d;have a:∀ o,Bw w (w.alloc o):=fun o=>o7;cases hn:o6 x.nm.data.toList
 · have i:=U0 (L_ (qE hn));go_enter func106,ntmps106
   go_wp2_with fail
   refine (c23 x.nm _ O0).mono ?_;rintro e c ⟨rfl,hw⟩;obtain rfl:=hw.symm;rw [hn];go_wp2;go_ret;exact ⟨i.out,a _⟩
 · cases hh:x.has
   · have b:=U0 (RP hn hh);go_enter func106,ntmps106
     go_wp2_with fail
     refine (c23 x.nm _ O0).mono ?_;rintro e c ⟨rfl,hw⟩;obtain rfl:=hw.symm;rw [hn]
     go_wp2_with fail
     refine (c59 x.cd x.tx _ O0).mono ?_;rintro e w2 ⟨rfl,f⟩;have g:=(a _).trans (f.mono I4);go_wp2;go_ret;exact ⟨⟨_,rfl,b.out.symm⟩,g⟩
   · have b:=U0 (WO hn hh)
     skip
     all_goals
      go_enter func106,ntmps106
      go_wp2_with fail
      refine (c23 x.nm _ O0).mono ?_;rintro e c ⟨rfl,hw⟩;obtain rfl:=hw.symm;rw [hn];go_wp2
      all_goals go_ret
      all_goals first
       | exact ⟨Yj (b.out.2 (by simp [*])),a _⟩
       | exact ⟨L_ (fun h=>by have:=b.out.1 h;simp [*] at this),a _⟩
       | exact ⟨Yj (b.out.2 (by simp [*])),(a _).alloc I4 _⟩
       | exact ⟨L_ (fun h=>by have:=b.out.1 h;simp [*] at this),(a _).alloc I4 _⟩
theorem a0S (x:L4) (w:World) (f:x.le 1048600):
 Calls prog 191 #[.agg #[.bool x.has,.string x.nm,.int .i64 x.cd,.string x.tx]] w fun e w'=>Tm (Vh x) e/\Bw w w':=by
 obtain ⟨s1,s2⟩:=f;have a:∀ o,Bw w (w.alloc o):=fun o=>o7;cases hh:x.has
 · cases hn:o6 x.nm.data.toList
   · have d:=U0 (L_ (qE hn));go_enter func191,ntmps191
     go_wp2_with fail
     refine (QN x.nm _ O0).mono ?_;rintro e c ⟨rfl,hw⟩;obtain rfl:=hw.symm;rw [hn];go_wp2;go_ret;exact ⟨d.out,a _⟩
   · have b:=U0 (RP hn hh);go_enter func191,ntmps191
     go_wp2_with fail
     refine (QN x.nm _ O0).mono ?_;rintro e c ⟨rfl,hw⟩;obtain rfl:=hw.symm;rw [hn]
     go_wp2_with fail
     refine (JM x.cd x.tx _ O0).mono ?_;rintro e w2 ⟨rfl,g⟩;have i:=(a _).trans (g.mono I4);go_wp2;go_ret;exact ⟨⟨_,rfl,b.out.symm⟩,i⟩
 · cases hn:o6 x.nm.data.toList
   · have d:=U0 (L_ (qE hn));go_enter func191,ntmps191
     go_wp2_with fail
     refine (QN x.nm _ O0).mono ?_;rintro e c ⟨rfl,hw⟩;obtain rfl:=hw.symm;rw [hn];go_wp2;go_ret;exact ⟨d.out,(a _).alloc I4 _⟩
   · have b:=U0 (WO hn hh)
     skip
     all_goals
      go_enter func191,ntmps191
      go_wp2_with fail
      refine (QN x.nm _ O0).mono ?_;rintro e c ⟨rfl,hw⟩;obtain rfl:=hw.symm;rw [hn];go_wp2
      all_goals go_ret
      all_goals first
       | exact ⟨Yj (b.out.2 (by simp [*])),(a _).alloc I4 _⟩
       | exact ⟨L_ (fun h=>by have:=b.out.1 h;simp [*] at this),(a _).alloc I4 _⟩
       | exact ⟨Yj (b.out.2 (by simp [*])),((a _).alloc I4 _).alloc U7 _⟩
       | exact ⟨L_ (fun h=>by have:=b.out.1 h;simp [*] at this),((a _).alloc I4 _).alloc U7 _⟩
theorem a1l (c:Int) (w:World) (hc:c=0\/c=1\/c=2\/c=3\/c=4\/c=5\/c=7):
 Calls prog 303 #[.int .i64 c] w fun e w'=>e=.returned (.string (Y2 [UInt8.ofNat (48+c).toNat]))/\w'=w:=by
 rcases hc with rfl | rfl | rfl | rfl | rfl | rfl | rfl
 all_goals
  go_enter func303,ntmps303;go_wp2;go_ret;exact ⟨rfl,rfl⟩
theorem a1z (c:Int) (w:World) (hc:c=0\/c=1\/c=2\/c=3\/c=4\/c=5\/c=7):
 Calls prog 292 #[.int .i64 c,.int .i64 10] w fun e w'=>e=.returned (.string (Y2 [UInt8.ofNat (48+c).toNat]))/\w'=w:=by
 have h1:0<=c:=O0;have h2:c<100:=O0;have H:=a1l c w hc;clear hc;go_enter func292,ntmps292
 go_wp2_with (go_at_call 303;refine H.mono ?_;rintro e w' ⟨rfl,rfl⟩)
 go_ret;exact ⟨rfl,rfl⟩
theorem a1T (c:Int) (w:World) (hc:c=0\/c=1\/c=2\/c=3\/c=4\/c=5\/c=7):
 Calls prog 268 #[.int .i64 c] w fun e w'=>e=.returned (.string (Y2 [UInt8.ofNat (48+c).toNat]))/\w'=w:=by
 have H:=a1z c w hc;go_enter func268,ntmps268
 go_wp2_with (go_at_call 292;refine H.mono ?_;rintro e w' ⟨rfl,rfl⟩)
 go_ret;exact ⟨rfl,rfl⟩
theorem a1q (c:Int) (w:World) (hc:c=0\/c=1\/c=2\/c=3\/c=4\/c=5\/c=7):
 Calls prog 253 #[.int .i64 c] w fun e w'=>e=.returned (.string (Y2 [UInt8.ofNat (48+c).toNat]))/\w'=w:=by
 have H:=a1T c w hc;go_enter func253,ntmps253
 go_wp2_with (go_at_call 268;refine H.mono ?_;rintro e w' ⟨rfl,rfl⟩)
 go_ret;exact ⟨rfl,rfl⟩
theorem aP (c:Int) (s:BY) (w:World) (f:s.size<=1048700):
 Calls prog 224 #[.agg #[.int .i64 c,.string s]] w fun e w'=>e=.returned (.string (Y2 (l7 c s.data.toList)))/\Bw w w':=by
 go_enter func224,ntmps224
 go_wp2_with fail
 refine (JM _ _ _ f).mono ?_;rintro e d ⟨rfl,a⟩;have b:=((Z4 w.heap.size w).alloc x9 (.cells #[vI c,vS s] 103)).trans (a.mono I4);have g10:d.cell? (aW w 0)=some (vI c):=by rw [a.cell I4];simp
 have g11:d.cell? (aW w 1)=some (vS s):=by rw [a.cell I4];simp
 cases hv:vr c s.data.toList
 · have hF:=XJ hv;go_wp2;go_ret;exact ⟨hF,b⟩
 · have hc:=Bh hv;have hF:Hid (Y2 (l7 c s.data.toList)=Y2 [UInt8.ofNat (48+c).toNat]++⟨#[58]⟩++s):=UG hv;have hz:(Y2 [UInt8.ofNat (48+c).toNat]).size=1:=rfl;clear hv
   go_wp2_with fail
   go_region_with (go_at_call 253;refine (a1q _ _ hc).mono ?_;rintro e w' ⟨rfl,rfl⟩)
   all_goals go_wp2
   all_goals go_ret
   all_goals exact ⟨by rw [hF.out];rfl,by first | exact b | exact b.drew⟩
theorem Zb {s t:BY} (h:¬ s=t):¬ s.toList=t.toList:=fun e=>h (by
 apply qg;rw [ByteArray.toList_eq,ByteArray.toList_eq] at e;exact Rl.1 e)
theorem BH {a b:List G3} (c:a.length=b.length) (h:∀ j,j<a.length->a.getD j Yg=b.getD j Yg):a=b:=by
 refine ny c fun j h1 h2=>?_;have:=h j h1;simpa [List.getD,y9 h1,y9 h2] using this
theorem c56 (x y:R3) (D C:OA) (L K:Nat) (w:World) (hl:x.gs.length<=1048576) (hl':y.gs.length<=1048576) (J:Z_ w D x.gs) (I:Z_ w C y.gs):
 Calls prog 56 #[.agg #[.string x.key,.slice D x.gs.length L,.string x.out],.agg #[.string y.key,.slice C y.gs.length K,.string y.out]] w fun e w'=>Rb (x=y) e/\Bw w w':=by
 obtain ⟨g,a,f⟩:=x;obtain ⟨t,c,s⟩:=y;simp only at hl hl' J I ⊢;obtain ⟨V,hV⟩:∃ V,V=((w.alloc (.cells #[vS g,vL D a.length L,vS f] 113)).alloc (.cells #[vS t,vL C c.length K,vS s] 113)):=⟨_,rfl⟩;have q:Bw w V:=by rw [hV];exact o7.alloc I4 _
 have hz:V.heap.size=w.heap.size+2:=by rw [hV];simp
 have a1:V.cell? (aW w 1)=some (vL D a.length L):=by rw [hV];simp [go_sem]
 have S:V.cell? (aA (w.heap.size+1) 1)=some (vL C c.length K):=by rw [hV];simp [go_sem]
 have R:=O8 J q;have Q:=O8 I q;have r:=U0 hV;clear hV J I;by_cases u:g=t
 · by_cases ho:f=s
   · by_cases l:a.length=c.length
     · rw [<- l];rw [<- l] at S;subst u;subst ho;rw [<- l] at r;have v:=U0 l;clear l;obtain ⟨b,off,hc⟩:=Oh R;obtain ⟨b',E,P⟩:=Oh Q;have HC:=U0 hc;have HC':=U0 P;clear hc P R Q;go_enter func56,ntmps56
       go_wp2_with fail
       rw [<- r.out];clear r;go_loopw [5] (fun i wr=>∃ (k:Nat),k<=a.length/\i=.int .i64 k/\Hid (∀ j,j<k->a.getD j Yg=c.getD j Yg)/\Below V.heap.size V wr) (fun i _=>a.length - (intOf i).toNat)
       case atStart=>exact ⟨0,D5 _,rfl,fun j h=>absurd h (o9 _),Z4 _ _⟩
       case round=>
        obtain ⟨k,hk2,rfl,hd,d⟩:=hrel;have B:=G7 q d;have e1:=(d.cell (p:=(aW w 1)) (show w.heap.size<V.heap.size by omega)).trans a1;have e2:=(d.cell (p:=(aA (w.heap.size+1) 1)) (show w.heap.size+1<V.heap.size by omega)).trans S;by_cases o:k<a.length
        · obtain ⟨ha,H,A⟩:=Nc HC.out o;rcases HC'.out with hss | ⟨ha',F,z⟩
          · have l:=v.out;rw [hss] at l;rw [l] at o;exact absurd o (o9 _)
          subst ha;subst ha';have g0:=(d.cell (p:=(aA b (off+k*3))) H).trans (A k o).1;have g1:=(d.cell (p:=(aA b (off+k*3+1))) H).trans (A k o).2.1;have g2:=(d.cell (p:=(aA b (off+k*3+2))) H).trans (A k o).2.2;have g0':=(d.cell (p:=(aA b' (E+k*3))) F).trans (z k (by have:=v.out;omega)).1;have g1':=(d.cell (p:=(aA b' (E+k*3+1))) F).trans (z k (by have:=v.out;omega)).2.1;have g2':=(d.cell (p:=(aA b' (E+k*3+2))) F).trans (z k (by have:=v.out;omega)).2.2;clear A z;by_cases n:a.getD k Yg=c.getD k Yg
          · have HD:Hid (∀ j,j<k+1->a.getD j Yg=c.getD j Yg):=fun j hj=>by
             rcases o8 j k with h | h
             · exact hd.out j h
             · obtain rfl:j=k:=O0;exact n
            rw [<- n] at g0' g1' g2';generalize a.getD k Yg=X at*;clear n hd
            go_wp2_with fail
            go_region
            all_goals go_wp2
            all_goals go_roundw
            all_goals first
             | exact ⟨k+1,O0,by go_num,HD,d.drew⟩
             | (simp [intOf];omega)
          · have m:Hid (¬ R3.mk g a f=R3.mk g c f):=fun h=>n (by injection h with _ h2;rw [h2]);generalize a.getD k Yg=X at*;generalize c.getD k Yg=Y at*;obtain ⟨n1,t1,W⟩:=X;obtain ⟨n2,t2,U⟩:=Y;by_cases O:n1=n2
            · subst O;by_cases N:t1=t2
              · subst N;have Z:¬ W=U:=fun h=>n (by rw [h]);have q3':=Zb Z;clear n
                go_wp2_with fail
                go_region
                all_goals go_wp2
                all_goals go_ret
                all_goals exact ⟨G5 m.out,B.drew⟩
              · have q2':=Zb N;clear n
                go_wp2_with fail
                go_region
                all_goals go_wp2
                all_goals go_ret
                all_goals exact ⟨G5 m.out,B.drew⟩
            · have q1':(n1==n2)=false:=by simpa using O
              clear n
              go_wp2_with fail
              go_region
              all_goals go_wp2
              all_goals go_ret
              all_goals exact ⟨G5 m.out,B.drew⟩
        · obtain rfl:k=a.length:=O0;have HY:Hid (R3.mk g a f=R3.mk g c f):=by
           show R3.mk _ _ _=R3.mk _ _ _;rw [BH v.out hd.out]
          go_wp2;go_ret;exact ⟨C_ HY.out,B⟩
     · have m:Hid (¬ R3.mk g a f=R3.mk t c s):=fun h=>l (by injection h with _ h2;rw [h2]);subst u;subst ho;have hn1:¬ (a.length:Int)=c.length:=O0;go_enter func56,ntmps56
       go_wp2_with fail
       rw [<- r.out];go_ret;exact ⟨G5 m.out,q⟩
   · have m:Hid (¬ R3.mk g a f=R3.mk t c s):=fun h=>ho (by injection h);subst u;have ho1:=Zb ho;go_enter func56,ntmps56;go_wp2;go_ret;rw [<- r.out];exact ⟨G5 m.out,q⟩
 · have m:Hid (¬ R3.mk g a f=R3.mk t c s):=fun h=>u (by injection h);have hk1:=Zb u;go_enter func56,ntmps56;go_wp2;go_ret;rw [<- r.out];exact ⟨G5 m.out,q⟩
