import Derived.Test.YtdjaajjndfbpmaaGreatDoorZ07
import Derived.Maps.AppendAt
set_option maxHeartbeats 8000000
set_option maxRecDepth 100000
set_option linter.unusedSimpArgs false
set_option linter.unusedVariables false
namespace Go.Proofs.YtdjaajjndfbpmaaGreatDoor.M
open Proofs.Tryz
open Go.RowKit
variable {P:Prop} {x:L4}
theorem Dr (n:Int) (h:0<=n) (h1:n<=100000000):IntKind.i64.wrap (n.tdiv 10)=n / 10:=by
 rw [bv h];simp [IntKind.wrap,IntKind.signed,IntKind.bits];omega
theorem Cm (l:List UInt8) (x:Int):Q3 (l++[UInt8.ofNat x.toNat])=Q3 l++strOfNums [x]:=by
 apply Hd;simp [Q3,strOfNums]
theorem Rs (f:Nat):∀ (n:Int) (w:World),0<=n->n<=100000000->n.toNat<f->
 Calls prog 33 #[.int .i64 n] w fun e w'=>e=.returned (.string (Q3 (dec n)))/\Below w.heap.size w w':=by
 induction f with
 | zero=>intro n w _ _ h;omega
 | succ f ih=>
  intro n w h0 h1 hf;have hcv:=zx;have hcd:=uE;have hz:∀ y,(strOfNums [y]).size=1:=fun y=>strOfNums_size [y];by_cases h:n<10
  · go_enter func33,ntmps33
    go_wp2;go_ret;exact ⟨by rw [dec_lt n h];rfl,bA⟩
  have hq:(Q3 (dec (n / 10))).size<=100000001:=by rw [J3];exact tC _ O0 O0
  have H:Hid (∀ w,Calls prog 33 #[.int .i64 (IntKind.i64.wrap (n.tdiv 10))] w fun e w'=>e=.returned (.string (Q3 (dec (n / 10))))/\Below w.heap.size w w'):=by
   rw [Dr n h0 h1];exact fun w=>ih (n / 10) w O0 O0 O0
  have b:Hid (Ending.returned (.string (Q3 (dec (n / 10))++strOfNums [48+n % 10]))=.returned (.string (Q3 (dec n)))):=by
   rw [oo n O0,Cm];rfl
  clear ih;go_enter func33,ntmps33
  go_wp2_with fail
  go_region_with (go_at_call 33;refine (H.out _).mono ?_;rintro e w1 ⟨rfl,a⟩;(try (have hcb:=NF a)))
  all_goals go_wp2
  all_goals go_ret
  all_goals refine ⟨?_,?_⟩
  all_goals first
   | exact b.out
   | exact (((F4 w.heap.size w).drew).trans a).alloc a.size _
   | exact (((F4 w.heap.size w).alloc P9 _).drew).trans (a.mono X0)
theorem uf {k:IntKind} {a b:Int} (h:a=b):Ending.returned (.int k a)=.returned (.int k b):=by rw [h]
theorem dI (s:ByteArray) (w:World) (hs:s.size<=1048700):
 Calls prog 150 #[.string s] w fun e w'=>e=.returned (.int .i64 (n29 s.data.toList))/\Below w.heap.size w w':=by
 by_cases h:1<=s.size/\s.size<=7;rotate_left
 · have b:Hid (n29 s.data.toList=-1):=oC (by simpa using h)
   by_cases h1:1<=s.size
   all_goals
    go_enter func150,ntmps150;go_wp2
    all_goals go_ret
    all_goals exact ⟨uf b.out.symm,F4 _ _⟩
 obtain ⟨h1,h2⟩:=h;go_enter func150,ntmps150;go_wp2;go_loop [3,4] (fun n i=>∃ k:Nat,k<=s.size/\i=.int .i64 k/\n=.int .i64 (val (s.data.toList.take k))/\0<=val (s.data.toList.take k)/\val (s.data.toList.take k)<=10000000/\Hid ((s.data.toList.take k).all n_=true)) (fun _ i=>s.size - (intOf i).toNat)
 case atStart=>exact ⟨0,I5 _,rfl,rfl,by simp [val],by simp [val],rfl⟩
 obtain ⟨k,hk,rfl,rfl,p,hv1,o⟩:=hrel;by_cases d:k<s.size
 · by_cases a:n_ s[k]=true
   · have f:=(jb _).1 a
     have hw:=Hq _ f;have m:=Q0 (Gb _ s k d o.out a);have j:Hid (val (s.data.toList.take (k+1))=val (s.data.toList.take k)*10+((s[k].toNat:Int) - 48)):=by
      rw [d_ s k d];exact Ja _ _
     have r:=Q0 (Mt _ m.out J4);clear a;go_wp2
     go_round
     case rel=>exact ⟨k+1,O0,by go_num,by rw [j.out],by rw [j.out];omega,r.out,m⟩
     case measure=>simp [intOf];omega
   have b:=Q0 (FB (Rc _ s k d (by simpa using a)));have f:(s[k].toNat:Int)<48\/57<(s[k].toNat:Int):=by
    rcases Im (s[k].toNat:Int) 48 with h | h
    · exact .inl h
    rcases Im 57 (s[k].toNat:Int) with g | g
    · exact .inr g
    exact absurd ((jb _).2 ⟨h,g⟩) a
   clear a;rcases f with a | a
   all_goals
    go_wp2
    all_goals go_ret
    all_goals exact ⟨uf b.out.symm,F4 _ _⟩
 have t:=Q0 (Jb _ s k O0 o.out);have hE:Hid (s.data.toList.take k=s.data.toList):=E_ J4
 go_wp2_with fail
 refine (Rs _ _ _ p O0 (iw _)).mono ?_;rintro e w1 ⟨rfl,l⟩;rw [hE.out];by_cases c:dec (val s.data.toList)=s.data.toList
 · have b:=Q0 (Ep (by simpa using ⟨h1,h2⟩) t.out c)
   have q:((Q3 (dec (val s.data.toList))).toList==s.toList)=true:=by
    rw [c,I7,I7];simp [Q3]
   clear c;go_wp2;go_ret;exact ⟨uf b.out.symm,l⟩
 have b:=Q0 (gB c);have q:((Q3 (dec (val s.data.toList))).toList==s.toList)=false:=by
  rw [I7,I7];simpa [Q3] using c
 clear c;go_wp2;go_ret;exact ⟨uf b.out.symm,l⟩
theorem c148 (c:Int) (s:ByteArray) (w:World) (g:s.size<=1048700):
 Calls prog 148 #[.agg #[.int .i64 c,.string s]] w fun e w'=>e=.returned (.bool (vr c s.data.toList))/\Below w.heap.size w w':=by
 have d:s.data.toList.length=s.size:=X0;by_cases xR:300<s.size
 · have a:Hid (vr c s.data.toList=false):=Rv O0
   clear d;go_enter func148,ntmps148;go_wp2;go_ret;exact ⟨Y4 (by rw [a.out]),bA⟩
 by_cases b:c=0\/c=1
 · have a:Hid (vr c s.data.toList=true):=by unfold vr;rw [if_pos b,d];simp [Hid];omega
   clear d;rcases b with rfl | rfl
   all_goals
    go_enter func148,ntmps148;go_wp2;go_ret;exact ⟨Y4 (by rw [a.out]),bA⟩
 by_cases h2:c=2
 · subst h2
   have a:Hid (vr 2 s.data.toList=Q8 s.data.toList):=rfl;clear d b;go_enter func148,ntmps148
   go_wp2_with fail
   refine (dI _ _ g).mono ?_;rintro e w1 ⟨rfl,h⟩
   go_wp2_with fail
   refine (vH _ _ _ _).mono ?_;rintro e w2 ⟨rfl,rfl⟩;go_wp2;go_ret;refine ⟨Y4 (by rw [a.out];rw [<- Ut];simp),bA.trans (h.mono X0)⟩
 by_cases h3:c=3
 · subst h3
   have a:Hid (vr 3 s.data.toList=s.toList.isEmpty):=by rw [I7];rfl
   clear d b h2;go_enter func148,ntmps148;go_wp2;go_ret;exact ⟨Y4 (by rw [a.out]),bA⟩
 by_cases f:c=4\/c=5\/c=7
 · have a:Hid (vr c s.data.toList=J2 s.data.toList):=by unfold vr;rw [if_neg b,if_neg h2,if_neg h3,if_pos f];rfl
   clear d b h2 h3;rcases f with rfl | rfl | rfl
   all_goals
    go_enter func148,ntmps148
    go_wp2_with fail
    refine (c24 _ _ g).mono ?_;rintro e w1 ⟨rfl,rfl⟩;go_wp2;go_ret;exact ⟨Y4 (by rw [a.out]),bA⟩
 have a:Hid (vr c s.data.toList=false):=by unfold vr;rw [if_neg b,if_neg h2,if_neg h3,if_neg f];rfl
 have e0:(c==0)=false:=J4;have e1:(c==1)=false:=J4;have e2:(c==2)=false:=J4;have e3:(c==3)=false:=J4;have e4:(c==4)=false:=J4;have e5:(c==5)=false:=J4;have e7:(c==7)=false:=J4;clear d b h2 h3 f;go_enter func148,ntmps148;go_wp2;go_ret;exact ⟨Y4 (by rw [a.out]),bA⟩
def Lj (x:L4):Prop:=J2 x.nm.data.toList=true/\((x.has=true/\((x.cd=0/\x.tx=⟨#[]⟩)\/(x.cd=4/\x.tx=x.nm)))\/(x.has=false/\vr x.cd x.tx.data.toList=true))
def zL (P:Prop) (e:Ending):Prop:=∃ r,e=.returned (.bool r)/\(r=true↔P)
theorem Aq (h:¬ P):zL P (.returned (.bool false)):=⟨false,rfl,⟨fun h=>absurd h Kz,fun k=>absurd k h⟩⟩
theorem Zt (h:P):zL P (.returned (.bool true)):=⟨true,rfl,⟨fun _=>h,fun _=>rfl⟩⟩
theorem Gf (x y:ByteArray):x.toList=y.toList↔x=y:=⟨fun h=>by
 rw [I7,I7] at h;exact Hd (ag.1 h),fun h=>by rw [h]⟩
theorem TL (x:ByteArray):x.toList=[]↔x=⟨#[]⟩:=by
 rw [I7];exact ⟨fun h=>Hd (ag.1 h),fun h=>by rw [h]⟩
theorem zH (h:J2 x.nm.data.toList=false):¬ Lj x:=fun k=>absurd (k.1.symm.trans h) K3
theorem yK (b:J2 x.nm.data.toList=true) (a:x.has=false):Lj x↔vr x.cd x.tx.data.toList=true:=by
 constructor
 · rintro ⟨_,⟨h,_⟩ | ⟨_,h⟩⟩
   · rw [a] at h;cases h
   exact h
 exact fun h=>⟨b,.inr ⟨a,h⟩⟩
theorem vL (b:J2 x.nm.data.toList=true) (a:x.has=true):Lj x↔((x.cd=0/\x.tx.toList=[])\/(x.cd=4/\x.tx.toList=x.nm.toList)):=by
 rw [TL,Gf];constructor
 · rintro ⟨_,⟨_,h⟩ | ⟨h,_⟩⟩
   · exact h
   rw [a] at h;cases h
 exact fun h=>⟨b,.inl ⟨a,h⟩⟩
theorem ZO (x:L4) (w:World) (c:x.le 1048600):
 Calls prog 147 #[.agg #[.bool x.has,.string x.nm,.int .i64 x.cd,.string x.tx]] w fun e w'=>zL (Lj x) e/\Below w.heap.size w w':=by
 obtain ⟨s1,s2⟩:=c;have a:∀ o,Below w.heap.size w (w.alloc o):=fun o=>bA;cases hn:J2 x.nm.data.toList
 · have g:=Q0 (Aq (zH hn))
   go_enter func147,ntmps147
   go_wp2_with fail
   refine (c24 x.nm _ O0).mono ?_;rintro e w1 ⟨rfl,hw⟩;obtain rfl:=hw.symm;rw [hn];go_wp2;go_ret;exact ⟨g.out,a _⟩
 cases hh:x.has
 · have b:=Q0 (yK hn hh)
   go_enter func147,ntmps147
   go_wp2_with fail
   refine (c24 x.nm _ O0).mono ?_;rintro e w1 ⟨rfl,hw⟩;obtain rfl:=hw.symm;rw [hn]
   go_wp2_with fail
   refine (c148 x.cd x.tx _ O0).mono ?_;rintro e w2 ⟨rfl,d⟩;have f:=(a _).trans (d.mono X0);go_wp2;go_ret;exact ⟨⟨_,rfl,b.out.symm⟩,f⟩
 have b:=Q0 (vL hn hh)
 skip
 all_goals
  go_enter func147,ntmps147
  go_wp2_with fail
  refine (c24 x.nm _ O0).mono ?_;rintro e w1 ⟨rfl,hw⟩;obtain rfl:=hw.symm;rw [hn];go_wp2
  all_goals go_ret
  all_goals first
   | exact ⟨Zt (b.out.2 (by simp [*])),a _⟩
   | exact ⟨Aq (fun h=>by have:=b.out.1 h;simp [*] at this),a _⟩
   | exact ⟨Zt (b.out.2 (by simp [*])),(a _).alloc X0 _⟩
   | exact ⟨Aq (fun h=>by have:=b.out.1 h;simp [*] at this),(a _).alloc X0 _⟩
def Kr (ls:List L4):Prop:=ls.length<=15/\∀ i,i<ls.length->Lj (ls.getD i Ga)
theorem qN (a:Option Addr) (cap:Nat) (ls:List L4) (w:World) (hl:ls.length<=1048576) (t:∀ i,(ls.getD i Ga).le 1048576) (z:Ac w a ls):
 Calls prog 123 #[.slice a ls.length cap] w fun e w'=>zL (Kr ls) e/\Below w.heap.size w w':=by
 obtain ⟨b,f,y⟩:=Py z;have J:=Q0 y;have I:=Q0 t;clear y z t;by_cases hbig:15<ls.length
 · have q:Hid (zL (Kr ls) (.returned (.bool false))):=Aq (fun h=>by have:=h.1;omega)
   go_enter func123,ntmps123;go_wp2;go_ret;exact ⟨q.out,F4 _ _⟩
 go_enter func123,ntmps123
 go_wp2_with fail
 go_loopw [3] (fun n wr=>∃ k:Nat,k<=ls.length/\n=.int .i64 k/\Below w.heap.size w wr/\Hid (∀ j,j<k->Lj (ls.getD j Ga))) (fun n _=>ls.length - (intOf n).toNat)
 case atStart=>exact ⟨0,I5 _,rfl,F4 _ _,fun j h=>absurd h (F5 _)⟩
 obtain ⟨k,hk,rfl,c,u⟩:=hrel;by_cases l:k<ls.length;rotate_left
 · have o:Hid (zL (Kr ls) (.returned (.bool true))):=Zt ⟨O0,fun j D=>u.out j O0⟩
   go_wp2;go_ret;exact ⟨o.out,c⟩
 rcases J.out with B | ⟨F,m,v⟩
 · rw [B] at l;exact absurd l (F5 _)
 subst F;obtain ⟨g0,g1,g2,g3⟩:=v k l;have g0:=(c.cell (p:=⟨b,f+k*4,none⟩) m).trans g0;have g1:=(c.cell (p:=⟨b,f+k*4+1,none⟩) m).trans g1;have g2:=(c.cell (p:=⟨b,f+k*4+2,none⟩) m).trans g2;have g3:=(c.cell (p:=⟨b,f+k*4+3,none⟩) m).trans g3;have s:=I.out k;have q:Hid (¬ Lj (ls.getD k Ga)->zL (Kr ls) (.returned (.bool false))):=fun h=>Aq fun d=>h (d.2 k l);have H:Hid (Lj (ls.getD k Ga)->∀ j,j<k+1->Lj (ls.getD j Ga)):=fun h j D=>by
  rcases U5 j k with h1 | h1
  · exact u.out j h1
  obtain rfl:j=k:=O0;exact h
 generalize ls.getD k Ga=x at*;clear v
 go_wp2_with fail
 refine (ZO x wr ⟨by have:=s.1;omega,by have:=s.2;omega⟩).mono ?_;rintro e w1 ⟨⟨r,rfl,g⟩,E⟩;have A:=bT c E;cases r
 · have C:=Q0 (q.out fun h=>absurd (g.2 h) Kz)
   clear g;go_wp2;go_ret;exact ⟨C.out,A⟩
 have o:=Q0 (H.out (g.1 rfl));clear g;go_wp2;go_roundw
 case rel=>exact ⟨k+1,O0,by go_num,A,o⟩
 case measure=>simp [intOf];omega
end Go.Proofs.YtdjaajjndfbpmaaGreatDoor.M
namespace Go.Proofs.YtdjaajjndfbpmaaGreatDoor.M
open Go.RowKit
theorem fill_eq (B:Nat) (vs:List Value):∀ (u:World) (j:Nat),fill u B j vs=u.setCells B j vs:=by
 induction vs with
 | nil=>intro u j;rfl
 | cons v vs ih=>intro u j;exact ih _ _
theorem Uv (B o j:Nat):(⟨B,o,none⟩:Addr).add j=⟨B,o+j,none⟩:=by unfold Addr.add;split <;> simp_all
section
variable {P:Program}
theorem Re (w:World) (B:Nat) (ty:TypeId) (cs:List Value) (d:TypeDesc) (f:Lc w B cs)
 (b:P.underlying ty=some d) (hd:(match d with | .struct _ | .array _ _=>true | _=>false)=true) (a:(P.info? ty).map (·.size)=some cs.length):
 (loadVar ty ⟨B,0,none⟩).run P w=.ok (.agg cs.toArray) w:=by
 have e:(loadCells ⟨B,0,none⟩ cs.length).run P w=.ok cs.toArray w:=
  run_loadCells_list (P:=P) w ⟨B,0,none⟩ cs (fun j v hv=>by rw [Uv,R7];exact f j v hv)
 cases hq:P.info? ty with
 | none=>simp [hq] at a
 | some i=>
  have c:i.size=cs.length:=by simpa [hq] using a
  have g:(isAgg ty).run P w=.ok true w:=by
   unfold isAgg;rw [Hf,Xr b w];cases d <;> simp_all
  simp [loadVar,Hf,g,sizeOf,typeInfo,hq,c,e]
theorem Yo {ops:Array Oper} {rest:List Oper} {o:Oper} {a:Act} {w:World} {Q:Exit->Act->World->Prop} (e:o.guard=none) (ty:TypeId) (x:Operand) (ho:o.op=.load ty x)
 (B:Nat) (hx:a.eval x=.pointer (some ⟨B,0,none⟩)) (cs:List Value) (d:TypeDesc) (g:Lc w B cs)
 (b:P.underlying ty=some d) (f:(match d with | .struct _ | .array _ _=>true | _=>false)=true) (c:(P.info? ty).map (·.size)=some cs.length)
 (h:wpList P ops Q rest (a.put o.dst (.agg cs.toArray)) w):wpList P ops Q (o::rest) a w:=by
 refine Pv e fun K i=>?_;unfold Oper.wp execOp;simp only [ho,hx,Instr.loadAt,Instr.sureAddr,Hf,Nj,Oj,Re w B ty cs d g b f c];exact i _ _ h
theorem Kg (w:World) (B j:Nat) (ty:TypeId) (vs:List Value) (e:∀ i,i<vs.length->(w.cell? ⟨B,j+i,none⟩).isSome=true) (d:Uj w B) (h1:∀ v∈vs,v.oneCell'=true)
 (b:(P.info? ty).map (·.size)=some vs.length):
 (storeVar ty ⟨B,j,none⟩ (.agg vs.toArray)).run P w=.ok () (fill w B j vs):=by
 have a:=run_storeCells_cells (P:=P) B j vs 0 w (fun i h=>by simpa using e i h) (fun i _=>d _) h1;rw [Nh,<- fill_eq] at a
 cases hq:P.info? ty with
 | none=>simp [hq] at b
 | some i=>
  have c:i.size=vs.length:=by simpa [hq] using b
  simp [storeVar,Value.cells,Hf,sizeOf,typeInfo,hq,c,a]
theorem Zm {ops:Array Oper} {rest:List Oper} {o:Oper} {a:Act} {w:World} {Q:Exit->Act->World->Prop} (e:o.guard=none) (ty:TypeId) (x y:Operand) (ho:o.op=.store ty x y)
 (B j:Nat) (hx:a.eval x=.pointer (some ⟨B,j,none⟩)) (vs:List Value) (c:a.eval y=.agg vs.toArray) (k:∀ i,i<vs.length->(w.cell? ⟨B,j+i,none⟩).isSome=true) (f:Uj w B) (h1:∀ v∈vs,v.oneCell'=true)
 (d:(P.info? ty).map (·.size)=some vs.length) (g:o.dst=none)
 (h:wpList P ops Q rest a (fill w B j vs)):wpList P ops Q (o::rest) a w:=by
 refine Pv e fun K b=>?_;unfold Oper.wp execOp;simp only [ho,hx,c,Instr.storeAt,Instr.sureAddr,Hf,Nj,Oj,Kg w B j ty vs k f h1 d]
 first
  | exact b _ _ h
  | (simp only [Oper.upon];exact b _ _ h)
  | (simp only [Oper.upon,g];exact b _ _ h)
theorem j_ {fn:Func} {p:Tmp} {ty:TypeId} (h:fn.results=#[.cell p ty]) (tmps:Array Value) (w:World) (B:Nat) (cs:List Value) (d:TypeDesc)
 (c:tmps.getD p undef=.pointer (some ⟨B,0,none⟩)) (g:Lc w B cs)
 (a:P.underlying ty=some d) (f:(match d with | .struct _ | .array _ _=>true | _=>false)=true) (e:(P.info? ty).map (·.size)=some cs.length):
 (results fn tmps).run P w=.ok (.agg cs.toArray) w:=by
 have b:tmps[p]?.getD undef=.pointer (some ⟨B,0,none⟩):=by simpa using c
 simp [results,h,b,asAddr,Re w B ty cs d g a f e]
end
end Go.Proofs.YtdjaajjndfbpmaaGreatDoor.M
namespace Go.Proofs.YtdjaajjndfbpmaaGreatDoor
open Go.RowKit
def Ro (P:Program) (md:Region.Mode) (ops:Array Oper) (Q:Exit->Act->World->Prop) (S:World->Prop) (T:Nat):Nat->Array Bool->Act->World->Prop
 | 0,l,a,w=>Region.ready md ops l=[]/\Q .normal a w
 | n+1,l,a,w=>(Region.ready md ops l=[]->Q .normal a w)/\∀ i∈Region.ready md ops l,wpOp P ops Q i (fun a' w'=>(i≠T->S w')/\Ro P md ops Q S T n (l.setIfInBounds i true) a' w') a w
section
variable {P:Program} {ops:Array Oper} {Q:Exit->Act->World->Prop} {md:Region.Mode} {S:World->Prop} {T:Nat}
theorem EH (n:Nat):∀ (l:Array Bool) (a:Act) (w:World),Ro P md ops Q S T n l a w->wpAny P md ops Q n l a w:=by
 induction n with
 | zero=>exact fun _ _ _ h=>h
 | succ n ih=>exact fun _ _ _ h=>⟨h.1,fun i b=>wpOp_mono (fun d w' c=>ih _ d w' c.2) (h.2 i b)⟩
def Pd (md:Region.Mode) (ops:Array Oper) (T i:Nat):Bool:=(ops[T]?).any fun o=>o.after.any fun e=>Region.binds md e&&e.on==i
theorem PH {l:Array Bool} {T i:Nat} (a:Pd md ops T i=true) (e:i∈Region.ready md ops l):T∉Region.ready md ops l:=fun h=>by
 obtain ⟨_,o,ho,f⟩:=Jh.1 h;unfold Pd at a;rw [ho] at a;simp only [Dz,aA] at a;obtain ⟨k,d,b⟩:=a;simp only [V7,Vf] at b;have h1:=f _ (AA d) b.1;have h0:=(Jh.1 e).1;rw [b.2] at h1;rcases U5 i l.size with c | c
 · simp [c] at h0 h1;rw [h0] at h1;cases h1
 simp [Yj c] at h1
theorem bE {i:Nat} {oi:Oper} {v:Value} (s:ops[i]?=some oi) (V:Pd md ops T i=true) (x:∀ (j:Nat) (o:Oper) cs b,ops[j]?=some o->o.op≠.select cs b)
 (hQ:∀ c a w,Q (.panic c) (a.put oi.dst v) w->Q (.panic c) a w) (n:Nat):∀ (l:Array Bool) (a:Act) (w:World),
  (∀ j f,ops[j]?=some f->j≠i->l.getD j true=false->(∀ e∈f.after,Region.binds md e=true->e.on≠i)->oi.apart ops f=true)->
  i∈Region.ready md ops l->YieldsIf P ops S oi v a->S w->
  Ro P md ops Q S T n (l.setIfInBounds i true) (a.put oi.dst v) w->Ro P md ops Q S T (n+1) l a w:=by
 have E:∀ (l:Array Bool) j,i∈Region.ready md ops l->j∈Region.ready md ops l->j≠T:=fun l j h1 h2 e=>PH V h1 (e▸h2)
 induction n with
 | zero=>
  refine fun l a w _ g q p H=>⟨fun h=>absurd (h▸g) Xf,fun j m=>?_⟩;by_cases d:j=i
  · subst d;exact q.wpOp s p ⟨fun _=>p,H⟩
  exact absurd (H.1▸Pm m d) Xf
 | succ n ih=>
  refine fun l a w A g q p H=>⟨fun h=>absurd (h▸g) Xf,fun j m=>?_⟩;by_cases d:j=i
  · subst d;exact q.wpOp s p ⟨fun _=>p,H⟩
  have L:=E l j g m;obtain ⟨u,f,r,U⟩:=Jh.1 m;have F:∀ e∈f.after,Region.binds md e=true->e.on≠i:=fun e O R N=>by
   have h1:=U e O R;have h0:=(Jh.1 g).1;rw [N] at h1;rcases U5 i l.size with t | t
   · simp [t] at h0 h1;rw [h0] at h1;cases h1
   simp [Yj t] at h1
  refine wpOp_mono (fun W w' h=>?_) (wpOp_putIf r (A j f r d u F) (fun cs b=>x i oi cs b s) (fun cs b=>x j f cs b r) hQ q (H.2 j (Pm m d)));obtain ⟨B,y,C⟩:=h;refine ⟨y,ih _ W w' (fun k ok K J D I=>A k ok K J ?_ I) (Pm g (Ne.symm d)) B (y L) ?_⟩
  · by_cases z:j=k
    · exact z▸u
    rwa [Wu true z] at D
  rw [dF _ _ d];exact C
theorem mF {i:Nat} (j:Pd md ops T i=true) {oi:Oper} {v:Value} {n:Nat} {l:Array Bool} {a:Act} {w:World} (b:ops[i]?=some oi)
 (e:Region.noSelect ops=true) (g:Region.free md ops l i=true) (f:(Region.ready md ops l).contains i=true)
 (hQ:∀ c a w,Q (.panic c) (a.put oi.dst v) w->Q (.panic c) a w) (d:YieldsIf P ops S oi v a) (k:S w)
 (h:Ro P md ops Q S T n (l.setIfInBounds i true) (a.put oi.dst v) w):Ro P md ops Q S T (n+1) l a w:=
 bE b j (Region.noSelect_spec e) hQ n l a w (Region.free_spec b g) (by simpa using f) d k h
def l8 (P:Program) (md:Region.Mode) (ops:Array Oper) (Q:Exit->Act->World->Prop) (S:World->Prop) (T n:Nat) (l:Array Bool) (a:Act) (w:World) (rs:List Nat):Prop:=
 ∀ i∈rs,wpOp P ops Q i (fun a' w'=>(i≠T->S w')/\Ro P md ops Q S T n (l.setIfInBounds i true) a' w') a w
theorem l8.nil {n:Nat} {l:Array Bool} {a:Act} {w:World}:l8 P md ops Q S T n l a w []:=fun _ h=>absurd h Xf
theorem l8.cons {n:Nat} {l:Array Bool} {a:Act} {w:World} {i:Nat} (hne:i≠T) {o:Oper} {rs:List Nat} (ho:ops[i]?=some o)
 (h:∀ b:Act->World->Prop,Shut (∀ a w,S w->(S w->Ro P md ops Q S T n (l.setIfInBounds i true) a w)->b a w)->if Region.wanted o (yielded ops a.tmps)=true then Oper.wp P o a w b Q else b (a.put o.dst undef) w)
 (e:l8 P md ops Q S T n l a w rs):l8 P md ops Q S T n l a w (i::rs):=fun j c=>by
 rcases D_.1 c with rfl | c
 · exact wpOp_step ho (fun b g=>h b (fun a w d f=>g a w ⟨fun _=>d,f d⟩))
 exact e j c
theorem l8.last {n:Nat} {l:Array Bool} {a:Act} {w:World} {o:Oper} (ho:ops[T]?=some o)
 (h:∀ b:Act->World->Prop,Shut (∀ a w,Ro P md ops Q S T n (l.setIfInBounds T true) a w->b a w)->if Region.wanted o (yielded ops a.tmps)=true then Oper.wp P o a w b Q else b (a.put o.dst undef) w):l8 P md ops Q S T n l a w [T]:=fun j c=>by
 obtain rfl:=R9.1 c;exact wpOp_step ho (fun b f=>h b (fun a w d=>f a w ⟨fun e=>absurd rfl e,d⟩))
theorem Aj {rs:List Nat} {n:Nat} {l:Array Bool} {a:Act} {w:World} (b:Region.ready md ops l=rs) (c:rs≠[]) (h:l8 P md ops Q S T n l a w rs):Ro P md ops Q S T (n+1) l a w:=
 ⟨fun h0=>absurd (b▸h0) c,b▸h⟩
theorem l_ {l:Array Bool} {a:Act} {w:World} (b:Region.ready md ops l=[]) (h:Q .normal a w) (n:Nat):Ro P md ops Q S T n l a w:=by
 cases n with
 | zero=>exact ⟨b,h⟩
 | succ n=>exact ⟨fun _=>h,by rw [b];simp⟩
theorem R8 {b:Nat} {a:Act} {w:World} (T:Nat) (c:P.follows .mixedOrders=true) (d:S w.drew)
 (h:S w.drew->Ro P .any ops Q S T ops.size (Array.replicate ops.size false) a w.drew):(Code.region b ops true).wp P Q a w:=
 wp_region_any c (EH _ _ _ _ (h d))
theorem lk {i:Nat} {oi:Oper} {v:Value} {n:Nat} {l:Array Bool} {a:Act} {w:World} (d:ops[i]?=some oi) (b:(Pd md ops T i&&Region.noSelect ops&&Region.free md ops l i&&(Region.ready md ops l).contains i)=true) (hw:Region.wanted oi (yielded ops a.tmps)=true) (hv:∀ u,S u->(execOp a.eval oi).run P u=.ok (.value v) u) (e:S w) (h:Ro P md ops Q S T n (l.setIfInBounds i true) (a.put oi.dst v) w) (hQ:∀ c a w,Q (.panic c) (a.put oi.dst v) w->Q (.panic c) a w:=by exact fun _ _ _ h=>h):Ro P md ops Q S T (n+1) l a w:=by
 simp only [V7] at b;exact mF b.1.1.1 d b.1.1.2 b.1.2 b.2 hQ (.inl ⟨hw,hv⟩) e h
theorem lq {v:Value} {n:Nat} {l:Array Bool} {a:Act} {w:World} {d:Option Nat} {op:Op} {ty:TypeId} {p:String} {af:Array Edge} {g:Option (Nat×Bool)} (i:Nat) (f:S w) (h:Ro P md ops Q S T n (l.setIfInBounds i true) (a.put d v) w) (b:ops[i]?=some ⟨d,op,ty,p,af,g⟩:=by exact rfl) (e:(Pd md ops T i&&Region.noSelect ops&&Region.free md ops l i&&(Region.ready md ops l).contains i)=true:=by kernel_rfl) (hw:Region.wanted ⟨d,op,ty,p,af,g⟩ (yielded ops a.tmps)=true:=by exact rfl) (hv:∀ u,S u->(execOp a.eval ⟨d,op,ty,p,af,g⟩).run P u=.ok (.value v) u:=by intro wq hSw;(try dsimp only at hSw);go_simp;try with_reducible rfl) (hQ:∀ c a w,Q (.panic c) (a.put d v) w->Q (.panic c) a w:=by first | exact fun _ _ _ h=>h | exact fun _ _ _ h=>hQ _ _ _ _ _ h):Ro P md ops Q S T (n+1) l a w:=lk b e hw hv f h hQ
theorem lr {i:Nat} {o:Oper} {n:Nat} {l:Array Bool} {a:Act} {w:World} (ho:ops[i]?=some o) (d:i≠T) (c:Region.ready md ops l=[i]) (h:∀ b:Act->World->Prop,Shut (∀ a w,S w->(S w->Ro P md ops Q S T n (l.setIfInBounds i true) a w)->b a w)->if Region.wanted o (yielded ops a.tmps)=true then Oper.wp P o a w b Q else b (a.put o.dst undef) w):Ro P md ops Q S T (n+1) l a w:=Aj c X0 (l8.cons d ho h l8.nil)
theorem lz {o:Oper} {n:Nat} {l:Array Bool} {a:Act} {w:World} (ho:ops[T]?=some o) (c:Region.ready md ops l=[T]) (h:∀ b:Act->World->Prop,Shut (∀ a w,Ro P md ops Q S T n (l.setIfInBounds T true) a w->b a w)->if Region.wanted o (yielded ops a.tmps)=true then Oper.wp P o a w b Q else b (a.put o.dst undef) w):Ro P md ops Q S T (n+1) l a w:=Aj c X0 (l8.last ho h)
theorem nG {o:Oper} {a:Act} {w w':World} {v:Value} {K:Act->World->Prop} {E:Prop} (c:o.guard=none) (b:(execOp a.eval o).run P w=.ok (.value v) w') (d:K (a.put o.dst v) w'):if Region.wanted o (yielded ops a.tmps)=true then Oper.wp P o a w K Q else E:=by
 rw [Y3 (by simp [Region.wanted,c])];unfold Oper.wp;rw [b];exact d
theorem LK {o:Oper} {a:Act} {w w':World} {K:Act->World->Prop} {E:Prop} (c:o.guard=none) (b:(execOp a.eval o).run P w=.ok .skip w') (d:K (a.put o.dst undef) w'):if Region.wanted o (yielded ops a.tmps)=true then Oper.wp P o a w K Q else E:=by
 rw [Y3 (by simp [Region.wanted,c])];unfold Oper.wp;rw [b];exact d
theorem Bh {rest:List Oper} {o:Oper} {a:Act} {w w':World} {v:Value} (c:o.guard=none) (b:(execOp a.eval o).run P w=.ok (.value v) w') (h:wpList P ops Q rest (a.put o.dst v) w'):wpList P ops Q (o::rest) a w:=by
 refine Pv c fun K d=>?_;unfold Oper.wp;rw [b];exact d _ _ h
theorem tL {rest:List Oper} {o:Oper} {a:Act} {w w':World} (c:o.guard=none) (b:(execOp a.eval o).run P w=.ok .skip w') (h:wpList P ops Q rest (a.put o.dst undef) w'):wpList P ops Q (o::rest) a w:=by
 refine Pv c fun K d=>?_;unfold Oper.wp;rw [b];exact d _ _ h
end
def Cl (w:World) (b:Nat) (t:TypeId) (xs:List Value):Prop:=w.heap[b]?=some (.cells xs.toArray t (0,0))
structure kr (B:Nat) (w w':World):Prop where
 os:w'.os=w.os
 tape:w'.tape=w.tape
 output:w'.output=w.output
 size:w'.heap.size=w.heap.size
 block:∀ k,k≠B->w'.heap[k]?=w.heap[k]?
theorem Cl.lt {w:World} {b:Nat} {t:TypeId} {xs:List Value} (h:Cl w b t xs):b<w.heap.size:=(Ha.1 h).1
theorem Cl.cell {w:World} {b:Nat} {t:TypeId} {xs:List Value} (h:Cl w b t xs) (j:Nat):w.cell? ⟨b,j,none⟩=xs[j]?:=by
 rw [Z5 h j];simp
theorem Cl.opn {w:World} {b:Nat} {t:TypeId} {xs:List Value} (h:Cl w b t xs) (j:Nat):w.frozen? ⟨b,j,none⟩=false:=B_ h j
theorem Cl.blk {w:World} {b:Nat} {t:TypeId} {xs:List Value} (h:Cl w b t xs):M.Lc w b xs:=fun j v e=>(h.cell j).trans e
theorem Cl.ne {w:World} {a b:Nat} {t c:TypeId} {x y:List Value} (h:Cl w a t x) (k:Cl w b c y) (d:t≠c):a≠b:=fun e=>by
 subst e;unfold Cl at h k;rw [h] at k;injection k with k;injection k with _ k _;exact d k
theorem Cl.on {w w':World} {b B:Nat} {t:TypeId} {xs:List Value} (h:Cl w b t xs) (ho:kr B w w') (a:b≠B):Cl w' b t xs:=(ho.block b a).trans h
theorem Cl.below {w w':World} {b N:Nat} {t:TypeId} {xs:List Value} (h:Cl w b t xs) (a:Below N w w') (c:b<N):Cl w' b t xs:=(a.block b c).trans h
theorem Cl.set {w:World} {b:Nat} {t:TypeId} {xs:List Value} (h:Cl w b t xs) (j:Nat) (v:Value):Cl (w.setCell ⟨b,j,none⟩ v) b t (xs.set j v):=by
 have:=o8 w b j _ t v h;unfold Cl;rw [this,List.setIfInBounds_toArray]
theorem I6 (w:World) (b j:Nat) (v:Value):kr b w (w.setCell ⟨b,j,none⟩ v):=⟨rfl,rfl,rfl,X0,fun k a=>Z8 _ _ _ _ a⟩
theorem kr.below {B N:Nat} {w w':World} (h:kr B w w') (hN:N<=B):Below N w w':=⟨h.os,h.tape,h.output,Nat.le_of_eq h.size.symm,fun k hk=>h.block k O0⟩
theorem U1 (w:World) (xs:List Value) (t:TypeId):Cl (w.alloc (.cells xs.toArray t)) w.heap.size t xs:=Bn w _
theorem J_ {w:World} {b:Nat} {t:TypeId} {xs:List Value} (h:Cl w b t xs) (o:Obj):Cl (w.alloc o) b t xs:=(Jf w o b h.lt).trans h
theorem za {w:World} {b:Nat} {t:TypeId} {xs:List Value} (h:Cl w b t xs):∀ j u,xs[j]?=some u->w.cell? ((⟨b,0,none⟩:Addr).add j)=some u:=fun j u e=>by
 have a:(⟨b,0,none⟩:Addr).add j=⟨b,j,none⟩:=by unfold Addr.add;split <;> simp_all
 rw [a];exact (h.cell j).trans e
theorem Cl.fill {w:World} {B:Nat} {t:TypeId} {xs:List Value} (vs:List Value):∀ (j:Nat),Cl w B t xs->∃ ys,Cl (M.fill w B j vs) B t ys/\ys.length=xs.length/\∀ i,ys[i]?=if j<=i/\i<j+vs.length/\i<xs.length then vs[i - j]? else xs[i]?:=by
 induction vs generalizing w xs with
 | nil=>exact fun j h=>⟨xs,h,rfl,fun i=>by rw [R3];simp;omega⟩
 | cons v vs ih=>
  intro j h;obtain ⟨ys,h1,h2,h3⟩:=ih (j+1) (h.set j v);refine ⟨ys,h1,by simpa using h2,fun i=>?_⟩;rw [h3 i];simp only [Ed,u_];by_cases c:i=j
  · subst c
    rw [R3 O0];by_cases a:i<xs.length
    · rw [Y3 ⟨O0,O0,a⟩,Fz a]
      simp
    rw [R3 O0];simp [Xe (show (xs.set i v).length<=i by simp;omega),Xe (show xs.length<=i by omega)]
  by_cases b:j<=i/\i<j+(vs.length+1)/\i<xs.length
  · rw [Y3 b,Y3 O0]
    obtain ⟨d,rfl⟩:∃ d,i=j+1+d:=⟨i - (j+1),O0⟩;have f:j+1+d - j=d+1:=O0;have e:j+1+d - (j+1)=d:=O0;rw [f,e];simp
  rw [R3 b,R3 O0,Zz O0]
theorem dw (B:Nat) (vs:List Value):∀ (w:World) (j:Nat),kr B w (M.fill w B j vs):=by
 induction vs with
 | nil=>exact fun w j=>⟨rfl,rfl,rfl,rfl,fun _ _=>rfl⟩
 | cons v vs ih=>
  intro w j;have h1:=I6 w B j v;have h2:=ih (w.setCell ⟨B,j,none⟩ v) (j+1);exact ⟨h2.os.trans h1.os,h2.tape.trans h1.tape,h2.output.trans h1.output,h2.size.trans h1.size,fun k a=>(h2.block k a).trans (h1.block k a)⟩
def Tf (xs:List Value) (j:Nat) (vs:List Value):List Value:=xs.take j++vs++xs.drop (j+vs.length)
theorem Cl.SE {w:World} {B:Nat} {t:TypeId} {xs vs:List Value} {j:Nat} (h:Cl w B t xs) (hl:j+vs.length<=xs.length):Cl (M.fill w B j vs) B t (Tf xs j vs):=by
 obtain ⟨ys,h1,h2,h3⟩:=h.fill vs j;have:ys=Tf xs j vs:=by
  apply vk;intro i;rw [h3 i];unfold Tf;by_cases b:i<j
  · rw [R3 O0,y_,Eb J4,Rt b]
  by_cases a:i<j+vs.length
  · rw [Y3 ⟨O0,a,O0⟩,y_,ji J4,Eb J4]
    congr 1
    simp;omega
  rw [R3 O0,ji J4,zq]
  congr 1
  simp;omega
 rw [<- this];exact h1
section
variable {P:Program} {ops:Array Oper} {Q:Exit->Act->World->Prop}
theorem rA {o:Oper} {a:Act} {w:World} (ty:TypeId) (x y:Operand) (ho:o.op=.store ty x y) {B j:Nat} {t:TypeId} {xs vs:List Value} (hx:a.eval x=.pointer (some ⟨B,j,none⟩)) (b:a.eval y=.agg vs.toArray) (hB:Cl w B t xs) (hl:j+vs.length<=xs.length) (h1:∀ v∈vs,v.oneCell'=true) (c:(P.info? ty).map (·.size)=some vs.length):
 (execOp a.eval o).run P w=.ok .skip (M.fill w B j vs):=by
 unfold execOp;simp only [ho,hx,b,Instr.storeAt,Instr.sureAddr,Hf,Nj,Oj,M.Kg w B j ty vs (fun i h=>by rw [hB.cell];simp;omega) (fun j=>hB.opn j) h1 c]
theorem qh {o:Oper} {a:Act} {w:World} {K:Act->World->Prop} {E:Prop} (e:o.guard=none) (ty:TypeId) (x y:Operand) (ho:o.op=.store ty x y) {B j:Nat} {t:TypeId} {xs vs:List Value} (hx:a.eval x=.pointer (some ⟨B,j,none⟩)) (c:a.eval y=.agg vs.toArray) (hB:Cl w B t xs) (b:j+vs.length<=xs.length) (h1:∀ v∈vs,v.oneCell'=true) (d:(P.info? ty).map (·.size)=some vs.length)
 (f:∀ w',Cl w' B t (Tf xs j vs)->kr B w w'->K (a.put o.dst undef) w'):if Region.wanted o (yielded ops a.tmps)=true then Oper.wp P o a w K Q else E:=
 LK e (rA ty x y ho hx c hB b h1 d) (f _ (hB.SE b) (dw _ _ _ _))
theorem Zi {rest:List Oper} {o:Oper} {a:Act} {w:World} (e:o.guard=none) (ty:TypeId) (x y:Operand) (ho:o.op=.store ty x y) {B j:Nat} {t:TypeId} {xs vs:List Value} (hx:a.eval x=.pointer (some ⟨B,j,none⟩)) (c:a.eval y=.agg vs.toArray) (hB:Cl w B t xs) (b:j+vs.length<=xs.length) (h1:∀ v∈vs,v.oneCell'=true) (d:(P.info? ty).map (·.size)=some vs.length)
 (f:∀ w',Cl w' B t (Tf xs j vs)->kr B w w'->wpList P ops Q rest (a.put o.dst undef) w'):wpList P ops Q (o::rest) a w:=
 tL e (rA ty x y ho hx c hB b h1 d) (f _ (hB.SE b) (dw _ _ _ _))
theorem yg {o:Oper} {a:Act} {w:World} (ty:TypeId) (x:Operand) (ho:o.op=.load ty x) {B j:Nat} {cs:List Value} {d:TypeDesc} (hx:a.eval x=.pointer (some ⟨B,j,none⟩)) (h:∀ i v,cs[i]?=some v->w.cell? ⟨B,j+i,none⟩=some v) (c:P.underlying ty=some d) (hd:(match d with | .struct _ | .array _ _=>true | _=>false)=true) (b:(P.info? ty).map (·.size)=some cs.length):
 (execOp a.eval o).run P w=.ok (.value (.agg cs.toArray)) w:=by
 have g:(loadCells ⟨B,j,none⟩ cs.length).run P w=.ok cs.toArray w:=
  run_loadCells_list (P:=P) w ⟨B,j,none⟩ cs (fun i v hv=>by rw [M.Uv];exact h i v hv)
 have f:(loadVar ty ⟨B,j,none⟩).run P w=.ok (.agg cs.toArray) w:=by
  cases hq:P.info? ty with
  | none=>simp [hq] at b
  | some i=>
   have e:i.size=cs.length:=by simpa [hq] using b
   have k:(isAgg ty).run P w=.ok true w:=by
    unfold isAgg;rw [Hf,Xr c w];cases d <;> simp_all
   simp [loadVar,Hf,k,sizeOf,typeInfo,hq,e,g]
 unfold execOp;simp only [ho,hx,Instr.loadAt,Instr.sureAddr,Hf,Nj,Oj,f]
def Inf (P:Program) (e:TypeId) (size:Nat):Prop:=∃ i z,P.info? e=some i/\i.zero=some z/\i.size=size/\z.cells.size=size/\i.bytes<=1000
theorem Ui {e:TypeId} {size:Nat} (h:((P.info? e).map fun i=>(i.zero.map fun z=>z.cells.size,i.size,decide (i.bytes<=1000)))=some (some size,size,true)):Inf P e size:=by
 cases hq:P.info? e with
 | none=>rw [hq] at h;cases h
 | some i=>
  rw [hq] at h;simp only [Option.map_some,Qv,Prod.mk.injEq,Q_] at h;obtain ⟨h1,h2,h3⟩:=h;obtain ⟨z,b,a⟩:=Uo.1 h1;exact ⟨i,z,hq,b,h2,a,h3⟩
def Src (w:World) (sv:Value) (size m:Nat) (news:List Value):Prop:=((∃ c,sv=.slice none 0 c)/\m=0/\news=[])\/∃ ad c,sv=.slice (some ad) m c/\news.length=m*size/\∀ j u,news[j]?=some u->w.cell? (ad.add j)=some u
theorem Gr (w:World) (base:Nat) (t ty e:TypeId) (size:Nat) (b:P.underlying t=some (.slice e)) (A:Inf P e size) (l:0<size) (v:Value) (n:Nat) (xs:List Value) (d:w.ownsRow base e size v n xs) (h:Value) (m:Nat) (a:List Value) (p:Src w h size m a) (h1:∀ u∈a,u.oneCell'=true) (x:n+m<=1000000) (C:base<=w.heap.size):
 ∃ v' w',(Builtin.append_ #[t,t] ty #[v,h]).run P w=.ok v' w'/\w'.ownsRow base e size v' (n+m) (xs++a)/\w.grownBy w' v.ownBlock/\(v'.ownBlock=v.ownBlock\/v'.ownBlock=some w.heap.size):=by
 obtain ⟨i,z,f,k,o,j,B⟩:=A;rcases p with ⟨⟨c,rfl⟩,rfl,rfl⟩ | ⟨E,c,rfl,y,r⟩
 · refine ⟨v,w,?_,by simpa using d,⟨rfl,rfl,rfl,Q6 _,fun _ _ _=>rfl⟩,.inl rfl⟩
   rcases d.2 with ⟨rfl,rfl⟩ | ⟨g,cap,cur,rfl,hbg,hg,s,hcm,hcs,htake⟩
   · simp [Builtin.append_,Xr b,sizeOf,typeInfo,f,Builtin.lenOf,Builtin.firstCells]
   simp [Builtin.append_,Xr b,sizeOf,typeInfo,f,Builtin.lenOf,Builtin.firstCells,loadCells,s,storeCells]
 obtain ⟨v',w',q,h2,h3,h4,D⟩:=run_append_own_at (P:=P) w base t ty e i z size i.bytes b f k o rfl j l v n xs d E m c a y r h1 (by simp only [maxLen];omega) (Z4 (UA x B) K3) C;exact ⟨v',w',q,h2,h3,D⟩
theorem z_ {o:Oper} {a:Act} {w:World} {K:Act->World->Prop} {E:Prop} (q:o.guard=none) (s x:Operand) (t:TypeId) (ho:o.op=.call { callee:=.builtin .append,args:=#[s,x],argTypes:=#[t,t] })
 (base:Nat) (e:TypeId) (size:Nat) (d:P.underlying t=some (.slice e)) (p:Inf P e size) (f:0<size) (v:Value) (n:Nat) (xs:List Value) (i:a.eval s=v) (k:w.ownsRow base e size v n xs) (c:Value) (m:Nat) (b:List Value) (hx:a.eval x=c) (g:Src w c size m b) (h1:∀ u∈b,u.oneCell'=true) (l:n+m<=1000000) (r:base<=w.heap.size)
 (h:∀ v' w',w'.ownsRow base e size v' (n+m) (xs++b)->w.grownBy w' v.ownBlock->(v'.ownBlock=v.ownBlock\/v'.ownBlock=some w.heap.size)->K (a.put o.dst v') w'):if Region.wanted o (yielded ops a.tmps)=true then Oper.wp P o a w K Q else E:=by
 obtain ⟨v',w',j,h2,h3,y⟩:=Gr w base t o.type e size d p f v n xs k c m b g h1 l r;refine nG q (v:=v') (w':=w') ?_ (h v' w' h2 h3 y);unfold execOp;simp only [ho,resolve,invoke,builtin,Hf,Nj,Oj,Mq,zh,uk,i,hx,j]
theorem Ve {rest:List Oper} {o:Oper} {a:Act} {w:World} (q:o.guard=none) (s x:Operand) (t:TypeId) (ho:o.op=.call { callee:=.builtin .append,args:=#[s,x],argTypes:=#[t,t] })
 (base:Nat) (e:TypeId) (size:Nat) (d:P.underlying t=some (.slice e)) (p:Inf P e size) (f:0<size) (v:Value) (n:Nat) (xs:List Value) (i:a.eval s=v) (k:w.ownsRow base e size v n xs) (c:Value) (m:Nat) (b:List Value) (hx:a.eval x=c) (g:Src w c size m b) (h1:∀ u∈b,u.oneCell'=true) (l:n+m<=1000000) (r:base<=w.heap.size)
 (h:∀ v' w',w'.ownsRow base e size v' (n+m) (xs++b)->w.grownBy w' v.ownBlock->(v'.ownBlock=v.ownBlock\/v'.ownBlock=some w.heap.size)->wpList P ops Q rest (a.put o.dst v') w'):wpList P ops Q (o::rest) a w:=by
 obtain ⟨v',w',j,h2,h3,y⟩:=Gr w base t o.type e size d p f v n xs k c m b g h1 l r;refine Bh q (v:=v') (w':=w') ?_ (h v' w' h2 h3 y);unfold execOp;simp only [ho,resolve,invoke,builtin,Hf,Nj,Oj,Mq,zh,uk,i,hx,j]
end
def X8 (w:World) (base:Nat) (e:TypeId) (v:Value) (xs:List Value):Prop:=
 (v=.slice none 0 0/\xs=[])\/∃ g off cap cur,v=.slice (some ⟨g,off,none⟩) xs.length cap/\base<=g/\w.heap[g]?=some (.cells cur e (0,0))/\xs.length<=cap/\cap<=maxLen/\off+cap<=cur.size/\(cur.toList.drop off).take xs.length=xs
theorem X8.form {w:World} {base:Nat} {e:TypeId} {v:Value} {xs:List Value} (h:X8 w base e v xs):∃ a c,v=.slice a xs.length c:=by
 rcases h with ⟨h,rfl⟩ | ⟨g,off,cap,cur,h,_⟩
 · exact ⟨none,0,h⟩
 exact ⟨_,_,h⟩
theorem X8.keep {w w':World} {base:Nat} {e:TypeId} {v:Value} {xs:List Value} (h:X8 w base e v xs) (b:∀ k,v.ownBlock=some k->k<w.heap.size->w'.heap[k]?=w.heap[k]?):X8 w' base e v xs:=by
 rcases h with h | ⟨g,a,cap,cur,h1,h2,h3,c⟩
 · exact .inl h
 exact .inr ⟨g,a,cap,cur,h1,h2,(b g (by rw [h1];rfl) (Ha.1 h3).1).trans h3,c⟩
theorem X8.lt {w:World} {base:Nat} {e:TypeId} {v:Value} {xs:List Value} (h:X8 w base e v xs) {k:Nat} (a:v.ownBlock=some k):base<=k/\∃ cur,w.heap[k]?=some (.cells cur e (0,0)):=by
 rcases h with ⟨rfl,_⟩ | ⟨g,off,cap,cur,rfl,h2,h3,h4⟩
 · cases a
 obtain rfl:g=k:=by injection a
 exact ⟨h2,cur,h3⟩
theorem X8.head {w:World} {base:Nat} {e:TypeId} {v x:Value} {xs:List Value} (h:X8 w base e v (x::xs)):∃ g a cap,v=.slice (some ⟨g,a,none⟩) (xs.length+1) cap/\w.cell? ⟨g,a,none⟩=some x/\1<=cap/\X8 w base e (.slice (if cap=1 then some ⟨g,a,none⟩ else some ⟨g,a+1,none⟩) xs.length (cap - 1)) xs:=by
 rcases h with ⟨_,h⟩ | ⟨g,a,cap,cur,rfl,h2,h3,d,h5,h6,h7⟩
 · cases h
 simp only [u_] at d h7;refine ⟨g,a,cap,rfl,?_,O0,?_⟩
 · rw [Z5 h3]
   have:=V3 (·[0]?) h7;rw [Rt O0,zq] at this;simpa using this
 have c:(cur.toList.drop (a+1)).take xs.length=xs:=by
  have:=V3 (List.drop 1) h7;rw [Cr,Iz] at this;simpa using this
 by_cases b:cap=1
 · rw [Y3 b]
   obtain rfl:xs=[]:=uF O0;exact .inr ⟨g,a,cap - 1,cur,rfl,h2,h3,X0,O0,O0,X0⟩
 rw [R3 b];exact .inr ⟨g,a+1,cap - 1,cur,rfl,h2,h3,O0,O0,O0,c⟩
section
variable {P:Program} (w:World)
theorem Gj (t ty e:TypeId) (i:TypeInfo) (o:P.underlying t=some (.slice e)) (s:P.info? e=some i) (l:i.size=1)
 (g f d h:Nat) (cur:Array Value) (v:w.heap[g]?=some (.cells cur e (0,0)))
 (a:Addr) (m c:Nat) (b:List Value) (r:b.length=m*i.size) (q:∀ j u,b[j]?=some u->w.cell? (a.add j)=some u) (h1:∀ u∈b,u.oneCell'=true)
 (p:d+m<=h) (x:f+d+b.length<=cur.size):
 (Builtin.append_ #[t,t] ty #[.slice (some ⟨g,f,none⟩) d h,.slice (some a) m c]).run P w=
  .ok (.slice (some ⟨g,f,none⟩) (d+m) h) (w.setRow g (cur.toList.take (f+d)++b++cur.toList.drop (f+d+b.length)).toArray):=by
 have n:=run_firstCells_some (P:=P) w i.size m a m c b r q;have k:=run_storeCells_at P g (f+d) e b 0 cur w v (by simpa using x) h1;simp only [Nh] at k;rw [l] at n;simp [Builtin.append_,Xr o,sizeOf,typeInfo,s,Builtin.lenOf,p,n,Qj,k,l]
theorem Bi (base:Nat) (t ty e:TypeId) (i:TypeInfo) (z:Value) (f:P.underlying t=some (.slice e)) (n:P.info? e=some i) (p:i.zero=some z) (c:i.size=1) (o:z.cells.size=1) (Q:i.bytes<=1000)
 (v:Value) (xs:List Value) (J:X8 w base e v xs) (a:Addr) (x:Value) (hx:w.cell? a=some x) (h1:x.oneCell'=true) (hn:xs.length<=1000000) (y:base<=w.heap.size):
 ∃ v' w',(Builtin.append_ #[t,t] ty #[v,.slice (some a) 1 1]).run P w=.ok v' w'/\X8 w' base e v' (xs++[x])/\w.grownBy w' v.ownBlock/\(v'.ownBlock=v.ownBlock\/v'.ownBlock=some w.heap.size):=by
 have l:∀ j u,[x][j]?=some u->w.cell? (a.add j)=some u:=fun j u e=>by
  cases j with
  | zero=>simp at e;subst e;have R:a.add 0=a:=(by unfold Addr.add;split <;> simp_all);rw [R];exact hx
  | succ j=>simp at e
 have s:∀ u∈[x],u.oneCell'=true:=fun u q=>by simp at q;subst q;exact h1
 rcases J with ⟨rfl,rfl⟩ | ⟨g,b,cap,cur,rfl,h2,h3,h4,S,h6,h7⟩
 · obtain ⟨v',w',d,I,H,k3,F⟩:=run_append_own_at (P:=P) w base t ty e i z 1 i.bytes f n p c rfl o K3 (.slice none 0 0) 0 [] (F9 _ _ _ _) a 1 1 [x] rfl l s (by simp [maxLen]) O0 y
   refine ⟨v',w',d,?_,H,F⟩;rcases I.2 with ⟨_,h⟩ | ⟨g,cap,cur,rfl,E,D,C,B,q5,A⟩
   · omega
   exact .inr ⟨g,0,cap,cur,rfl,E,D,C,B,O0,by simpa using A⟩
 by_cases r:xs.length+1<=cap
 · have d:=Gj (P:=P) w t ty e i f n c g b xs.length cap cur h3 a 1 1 [x] (by simp [c]) l s r J4
   refine ⟨_,_,d,.inr ⟨g,b,cap,_,X0,h2,setRow_heap w g cur _ e _ h3,by simpa using r,S,?_,?_⟩,⟨rfl,rfl,rfl,X0,fun k _ m=>setRow_other w g k _ (fun e=>m (by simp [Value.ownBlock,e]))⟩,.inl rfl⟩
   · simp only [Br,Q7,Jk,Yn,Array.length_toList,Fu]
     omega
   have V:(cur.toList.take (b+xs.length)).drop b=xs:=by
    rw [Cr];simpa using h7
   have U:((cur.toList.take (b+xs.length)++[x]++cur.toList.drop (b+xs.length+[x].length)).toArray.toList.drop b)=xs++[x]++cur.toList.drop (b+xs.length+[x].length):=by
    rw [y_,RA J4,V];simp
   rw [U];exact List.take_left
 have N:∀ j u,xs[j]?=some u->w.cell? ((⟨g,b,none⟩:Addr).add j)=some u:=fun j u e=>by
  rw [Qj,Z5 h3];have K:=(Jd.1 e).1;rw [<- h7,Rt K,zq] at e;simpa using e
 have d:=run_append_grow (P:=P) w t ty e i z f n p ⟨g,b,none⟩ xs.length cap xs (by simp [c]) N a 1 1 [x] (by simp [c]) l O0 O0 (growslice_fits O0 (Z4 (UA (show xs.length+1<=1000001 by omega) Q) K3));have L:=grownCap_ge w (xs.length+1) cap e;have O:=grownCap_le_maxLen w (xs.length+1) cap e (by simp only [maxLen];omega);refine ⟨_,_,d,.inr ⟨w.heap.size,0,_,_,X0,y,Bn w.drew _,by simpa using L,O,?_,?_⟩,⟨rfl,rfl,rfl,X0,fun k m _=>Jf w.drew _ k m⟩,.inr rfl⟩
 · simp only [Array.size_append,Br,size_zeroCells,o,Fu]
   omega
 have e3:(xs++[x]).length=xs.length+1:=X0;simp only [Array.toList_append,y_,pz];rw [<- y_];exact List.take_left
end
section
variable {P:Program} {ops:Array Oper} {Q:Exit->Act->World->Prop}
theorem FK {o:Oper} {a:Act} {w:World} {K:Act->World->Prop} {E:Prop} (r:o.guard=none) (s x:Operand) (t:TypeId) (ho:o.op=.call { callee:=.builtin .append,args:=#[s,x],argTypes:=#[t,t] })
 (base:Nat) (e:TypeId) (g:P.underlying t=some (.slice e)) (p:Inf P e 1)
 (v:Value) (xs:List Value) (k:a.eval s=v) (m:X8 w base e v xs) (b:Addr) (y:Value) (hx:a.eval x=.slice (some b) 1 1) (f:w.cell? b=some y) (h1:y.oneCell'=true) (n:xs.length<=1000000) (A:base<=w.heap.size)
 (h:∀ v' w',X8 w' base e v' (xs++[y])->w.grownBy w' v.ownBlock->(v'.ownBlock=v.ownBlock\/v'.ownBlock=some w.heap.size)->K (a.put o.dst v') w'):if Region.wanted o (yielded ops a.tmps)=true then Oper.wp P o a w K Q else E:=by
 obtain ⟨i,z,q,d,j,c,u⟩:=p;obtain ⟨v',w',l,h2,h3,B⟩:=Bi (P:=P) w base t o.type e i z g q d j c u v xs m b y f h1 n A;refine nG r (v:=v') (w':=w') ?_ (h v' w' h2 h3 B);unfold execOp;simp only [ho,resolve,invoke,builtin,Hf,Nj,Oj,Mq,zh,uk,k,hx,l]
theorem fM {rest:List Oper} {o:Oper} {a:Act} {w:World} (r:o.guard=none) (s x:Operand) (t:TypeId) (ho:o.op=.call { callee:=.builtin .append,args:=#[s,x],argTypes:=#[t,t] })
 (base:Nat) (e:TypeId) (g:P.underlying t=some (.slice e)) (p:Inf P e 1)
 (v:Value) (xs:List Value) (k:a.eval s=v) (m:X8 w base e v xs) (b:Addr) (y:Value) (hx:a.eval x=.slice (some b) 1 1) (f:w.cell? b=some y) (h1:y.oneCell'=true) (n:xs.length<=1000000) (A:base<=w.heap.size)
 (h:∀ v' w',X8 w' base e v' (xs++[y])->w.grownBy w' v.ownBlock->(v'.ownBlock=v.ownBlock\/v'.ownBlock=some w.heap.size)->wpList P ops Q rest (a.put o.dst v') w'):wpList P ops Q (o::rest) a w:=by
 obtain ⟨i,z,q,d,j,c,u⟩:=p;obtain ⟨v',w',l,h2,h3,B⟩:=Bi (P:=P) w base t o.type e i z g q d j c u v xs m b y f h1 n A;refine Bh r (v:=v') (w':=w') ?_ (h v' w' h2 h3 B);unfold execOp;simp only [ho,resolve,invoke,builtin,Hf,Nj,Oj,Mq,zh,uk,k,hx,l]
end
theorem Ol:Inf Tryz.prog 52 4:=Ui U2
theorem WL:Inf Tryz.prog 108 8:=Ui U2
theorem nN:Inf Tryz.prog 1 1:=Ui U2
theorem YL:Inf Tryz.prog 151 1:=Ui U2
end Go.Proofs.YtdjaajjndfbpmaaGreatDoor
namespace Go.Proofs.YtdjaajjndfbpmaaGreatDoor
open Go.RowKit
section
variable {P:Program} {ops:Array Oper} {Q:Exit->Act->World->Prop} {md:Region.Mode} {S:World->Prop} {T:Nat}
def dK (md:Region.Mode) (ops:Array Oper) (l:Array Bool):Prop:=∀ j o,ops[j]?=some o->l.getD j true=true->∀ e∈o.after,Region.binds md e=true->l.getD e.on true=true
def wJ (md:Region.Mode) (ops:Array Oper) (l:Array Bool):Bool:=(List.range ops.size).all fun j=>(ops[j]?).all fun o=>!l.getD j true || o.after.all fun e=>!Region.binds md e || l.getD e.on true
theorem iM {l:Array Bool} (h:wJ md ops l=true):dK md ops l:=fun j o ho a e c d=>by
 unfold wJ at h;have b:=(Ha.1 ho).1;have h1:=Nf.1 h j (List.mem_range.2 b);rw [ho] at h1;simp only [Option.all_some,Rl,Mr,a,Bool.true_eq_false,Zg,Array.all_eq_true'] at h1;have h2:=h1 e c;rw [d] at h2;simpa using h2
def zi (md:Region.Mode) (ops:Array Oper):Nat->Nat->Nat->Bool
 | 0,T,i=>Pd md ops T i
 | n+1,T,i=>Pd md ops T i || (List.range ops.size).any fun j=>Pd md ops T j&&zi md ops n j i
theorem fo {l:Array Bool} (d:dK md ops l) {T i:Nat} (hw:Pd md ops T i=true) (b:l.getD T true=true):l.getD i true=true:=by
 unfold Pd at hw
 cases ho:ops[T]? with
 | none=>rw [ho] at hw;cases hw
 | some o=>
  rw [ho] at hw;simp only [Dz,aA] at hw;obtain ⟨k,c,a⟩:=hw;simp only [V7,Vf] at a;have:=d T o ho b _ (AA c) a.1;rw [a.2] at this;exact this
theorem Ws {l:Array Bool} (a:dK md ops l):∀ (n:Nat) {T i:Nat},zi md ops n T i=true->l.getD T true=true->l.getD i true=true
 | 0,_,_,h,hl=>fo a h hl
 | n+1,T,i,h,hl=>by
  unfold zi at h;rw [Rl] at h;rcases h with h | h
  · exact fo a h hl
  obtain ⟨j,_,b⟩:=List.any_eq_true.1 h;rw [V7] at b;exact Ws a n b.2 (fo a b.1 hl)
theorem Oi {l:Array Bool} {T i:Nat} (hw:Pd md ops T i=true) (h:T∈Region.ready md ops l):l.getD i true=true:=by
 obtain ⟨_,o,ho,d⟩:=Jh.1 h;unfold Pd at hw;rw [ho] at hw;simp only [Dz,aA] at hw;obtain ⟨k,c,a⟩:=hw;simp only [V7,Vf] at a;have h1:=d _ (AA c) a.1;rw [a.2] at h1;rcases U5 i l.size with b | b
 · simp [b] at h1 ⊢;exact h1
 simp [Array.getD,show ¬ i<l.size by omega]
theorem qF {l:Array Bool} (d:dK md ops l) {n T i:Nat} (a:zi md ops n T i=true) (c:i∈Region.ready md ops l):T∉Region.ready md ops l:=fun h=>by
 have h0:=(Jh.1 c).1;have:l.getD i true=true:=by
  cases n with
  | zero=>exact Oi a h
  | succ n=>
   unfold zi at a;rw [Rl] at a;rcases a with a | a
   · exact Oi a h
   obtain ⟨j,_,b⟩:=List.any_eq_true.1 a;rw [V7] at b;exact Ws d n b.2 (Oi b.1 h)
 rw [this] at h0;cases h0
theorem bJ {l:Array Bool} (n:dK md ops l) {j:Nat} (m:j∈Region.ready md ops l):dK md ops (l.setIfInBounds j true):=fun k o ho d e g h=>by
 have up:∀ q,l.getD q true=true->(l.setIfInBounds j true).getD q true=true:=fun q i=>by
  by_cases b:j=q
  · subst b
    rcases U5 j l.size with a | a
    · simp [Array.getD,a]
    simp [Array.getD,show ¬ j<l.size by omega]
  rw [Wu true b];exact i
 by_cases f:j=k;rotate_left
 · rw [Wu true f] at d
   exact up _ (n k o ho d e g h)
 subst f;obtain ⟨_,o',c,p⟩:=Jh.1 m;rw [ho] at c;obtain rfl:=j6 c;have h1:=p e g h;refine up _ ?_;rcases U5 e.on l.size with a | a
 · simp [a] at h1 ⊢;exact h1
 simp [Array.getD,show ¬ e.on<l.size by omega]
theorem KA {i c:Nat} {oi:Oper} {v:Value} (t:ops[i]?=some oi) (W:zi md ops c T i=true) (y:∀ (j:Nat) (o:Oper) cs b,ops[j]?=some o->o.op≠.select cs b)
 (hQ:∀ c a w,Q (.panic c) (a.put oi.dst v) w->Q (.panic c) a w) (n:Nat):∀ (l:Array Bool) (a:Act) (w:World),dK md ops l->
  (∀ j f,ops[j]?=some f->j≠i->l.getD j true=false->(∀ e∈f.after,Region.binds md e=true->e.on≠i)->oi.apart ops f=true)->
  i∈Region.ready md ops l->YieldsIf P ops S oi v a->S w->
  Ro P md ops Q S T n (l.setIfInBounds i true) (a.put oi.dst v) w->Ro P md ops Q S T (n+1) l a w:=by
 have F:∀ (l:Array Bool) j,dK md ops l->i∈Region.ready md ops l->j∈Region.ready md ops l->j≠T:=fun l j r h1 h2 e=>qF r W h1 (e▸h2)
 induction n with
 | zero=>
  refine fun l a w _ _ g q p H=>⟨fun h=>absurd (h▸g) Xf,fun j m=>?_⟩;by_cases d:j=i
  · subst d;exact q.wpOp t p ⟨fun _=>p,H⟩
  exact absurd (H.1▸Pm m d) Xf
 | succ n ih=>
  refine fun l a w r B g q p H=>⟨fun h=>absurd (h▸g) Xf,fun j m=>?_⟩;by_cases d:j=i
  · subst d;exact q.wpOp t p ⟨fun _=>p,H⟩
  have N:=F l j r g m;obtain ⟨x,f,s,V⟩:=Jh.1 m;have I:∀ e∈f.after,Region.binds md e=true->e.on≠i:=fun e R U O=>by
   have h1:=V e R U;have h0:=(Jh.1 g).1;rw [O] at h1;rcases U5 i l.size with u | u
   · simp [u] at h0 h1;rw [h0] at h1;cases h1
   simp [Yj u] at h1
  refine wpOp_mono (fun X w' h=>?_) (wpOp_putIf s (B j f s d x I) (fun cs b=>y i oi cs b t) (fun cs b=>y j f cs b s) hQ q (H.2 j (Pm m d)));obtain ⟨C,z,D⟩:=h;refine ⟨z,ih _ X w' (bJ r m) (fun k ok L K E J=>B k ok L K ?_ J) (Pm g (Ne.symm d)) C (z N) ?_⟩
  · by_cases A:j=k
    · exact A▸x
    rwa [Wu true A] at E
  rw [dF _ _ d];exact D
theorem jR {i:Nat} {oi:Oper} {v:Value} {n:Nat} {l:Array Bool} {a:Act} {w:World} (d:ops[i]?=some oi) (b:(wJ md ops l&&zi md ops 12 T i&&Region.noSelect ops&&Region.free md ops l i&&(Region.ready md ops l).contains i)=true) (hw:Region.wanted oi (yielded ops a.tmps)=true) (hv:∀ u,S u->(execOp a.eval oi).run P u=.ok (.value v) u) (e:S w) (h:Ro P md ops Q S T n (l.setIfInBounds i true) (a.put oi.dst v) w) (hQ:∀ c a w,Q (.panic c) (a.put oi.dst v) w->Q (.panic c) a w:=by exact fun _ _ _ h=>h):Ro P md ops Q S T (n+1) l a w:=by
 simp only [V7] at b;exact KA d b.1.1.1.2 (Region.noSelect_spec b.1.1.2) hQ n l a w (iM b.1.1.1.1) (Region.free_spec d b.1.2) (by simpa using b.2) (.inl ⟨hw,hv⟩) e h
theorem l2 {v:Value} {n:Nat} {l:Array Bool} {a:Act} {w:World} {d:Option Nat} {op:Op} {ty:TypeId} {p:String} {af:Array Edge} {g:Option (Nat×Bool)} (i:Nat) (f:S w) (h:Ro P md ops Q S T n (l.setIfInBounds i true) (a.put d v) w) (b:ops[i]?=some ⟨d,op,ty,p,af,g⟩:=by exact rfl) (e:(wJ md ops l&&zi md ops 12 T i&&Region.noSelect ops&&Region.free md ops l i&&(Region.ready md ops l).contains i)=true:=by kernel_rfl) (hw:Region.wanted ⟨d,op,ty,p,af,g⟩ (yielded ops a.tmps)=true:=by exact rfl) (hv:∀ u,S u->(execOp a.eval ⟨d,op,ty,p,af,g⟩).run P u=.ok (.value v) u:=by intro wq hSw;(try dsimp only at hSw);go_simp;try with_reducible rfl) (hQ:∀ c a w,Q (.panic c) (a.put d v) w->Q (.panic c) a w:=by first | exact fun _ _ _ h=>h | exact fun _ _ _ h=>hQ _ _ _ _ _ h):Ro P md ops Q S T (n+1) l a w:=jR b e hw hv f h hQ
end
end Go.Proofs.YtdjaajjndfbpmaaGreatDoor
