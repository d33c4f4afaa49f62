import Derived.Test.YtdjaajjndfbpmaaGreatDoorZ36
set_option maxHeartbeats 8000000
set_option maxRecDepth 100000
namespace Go.Proofs.YtdjaajjndfbpmaaGreatDoor
open Proofs.Tryz
open Go.RowKit
theorem yl {P:Program} {ops:Array Oper} {o:Oper} {a:Act} {w:World} {K:Act->World->Prop} {Q:Exit->Act->World->Prop} {E:Prop}
 (q:o.guard=none) (s x:Operand) (t:TypeId) (l:o.op=Op.call { callee:=Callee.builtin Builtin.append,args:=#[s,x],argTypes:=#[t,t] })
 (base:Nat) (e:TypeId) (i:TypeInfo) (z:Value) (size bytes:Nat) (h1:P.underlying t=some (.slice e)) (h2:P.info? e=some i) (h3:i.zero=some z) (D:i.size=size) (C:i.bytes=bytes) (B:z.cells.size=size) (h7:0<size)
 (v:Value) (n:Nat) (xs:List Value) (g:a.eval s=v) (k:w.ownsRow base e size v n xs)
 (d:Addr) (m c:Nat) (b:List Value) (hx:a.eval x=.slice (some d) m c) (p:b.length=m*size) (r:∀ j u,b[j]?=some u->w.cell? (d.add j)=some u) (F:∀ u∈b,u.oneCell'=true)
 (b1:n+m<=maxLen) (b2:(n+m)*bytes<=140737488355328) (y:base<=w.heap.size)
 (A:∀ v' w',w'.ownsRow base e size v' (n+m) (xs++b)->w.grownBy w' v.ownBlock->K (a.put o.dst v') w'):
 if Region.wanted o (yielded ops a.tmps)=true then Oper.wp P o a w K Q else E:=by
 have hw:Region.wanted o (yielded ops a.tmps)=true:=by simp [Region.wanted,q]
 rw [Y3 hw];obtain ⟨v',w',h,r1,f,_⟩:=run_append_own (P:=P) w base t o.type e i z size bytes h1 h2 h3 D C B h7 v n xs k d m c b p r F b1 b2 y;unfold Oper.wp;simp [execOp,l,resolve,invoke,builtin,g,hx,h,Result.andThen];exact A v' w' r1 f
theorem UG {w:World} {base:Nat} {v:Value} {n:Nat} {l:List UInt8} (h:w.ownsRow base 5 1 v n (Lib.byteCells l)) (hn:0<n):(convert 22 9 v).run prog w=.ok (.string ⟨l.toArray⟩) w:=by
 have d:=h;obtain ⟨h1,h2⟩:=h;rcases h2 with ⟨_,h0⟩ | ⟨g,f,cur,rfl,hg,hh,_⟩
 · omega
 have a:l.length=n:=by rw [Vm] at h1;omega
 have:=BA (P:=prog) w 22 5 underlying22 underlying5 g 0 n f (l.map fun b=>(b.toNat:Int)) (by simpa using a) (fun i hi=>by
  rw [R7,d.cellAt i O0];have c:i<l.length:=O0;simp [Lib.byteCells,c]) 9 underlying9
 rw [this];have e:l.map ((fun n:Int=>UInt8.ofNat n.toNat)∘fun b=>(b.toNat:Int))=l:=(Bo (fun b _=>X0)).trans (List.map_id l);simp only [strOfNums,Kq,e]
theorem aF {c:UInt8} (h:¬ A9 c=true):(c.toNat:Int)<32\/126<(c.toNat:Int)\/((32:Int)<=(c.toNat:Int)/\(c.toNat:Int)<=126/\((c.toNat:Int) !=34)=false)\/((32:Int)<=(c.toNat:Int)/\(c.toNat:Int)<=126/\((c.toNat:Int) !=34)=true/\((c.toNat:Int) !=92)=false):=by
 unfold A9 at h;simp only [V7,Q_,Mr,Gi] at h;simp only [bne_eq_false_iff_eq,vw];omega
theorem qx (c:UInt8):IntKind.u8.wrap ((c.toNat:Int) / 16)=(c.toNat:Int) / 16:=by
 have:=c.toNat_lt;simp [IntKind.wrap,IntKind.signed,IntKind.bits];omega
theorem aP (w:World) (x y z:Value) (t:TypeId):∀ j u,[x,y,z][j]?=some u->(w.alloc (.cells #[x,y,z] t)).drew.cell? ((⟨w.heap.size,0,none⟩:Addr).add j)=some u:=by
 intro j u h
 match j,h with
 | 0,h=>simp at h;subst h;simp [Addr.add]
 | 1,h=>simp at h;subst h;simp [Addr.add]
 | 2,h=>simp at h;subst h;simp [Addr.add]
theorem YP (s:ByteArray) (w:World) (hs:s.size<=1048700):
 Calls prog 99 #[.string s] w fun e w'=>e=.returned (.string ⟨(V4 s.data.toList).toArray⟩)/\Below w.heap.size w w':=by
 obtain ⟨n,r,q,p,o⟩:=Ze info5;go_enter func99,ntmps99
 go_wp2_with fail
 go_loopw [3,5] (fun v i wr=>∃ (k:Nat),k<=s.size/\i=.int .i64 k/\wr.ownsRow w.heap.size 5 1 v (34::(s.data.toList.take k).flatMap qb).length (Lib.byteCells (34::(s.data.toList.take k).flatMap qb))/\Below w.heap.size w wr/\w.heap.size+1<=wr.heap.size) (fun _ i _=>s.size - (intOf i).toNat)
 case atStart=>exact ⟨0,Nat.zero_le _,rfl,World.ownsRow_lit _ #[.int .u8 34] 1 P9 (by unfold maxLen;omega) rfl,bA,X0⟩
 obtain ⟨k,hk,rfl,d,f,hz⟩:=hrel;have hL:(34::(s.data.toList.take k).flatMap qb:List UInt8).length<=3*k+1:=by
  have:=Vw (s.data.toList.take k);have h2:(s.data.toList.take k).length<=k:=Tv _ _;rw [u_];omega
 by_cases H:k<s.size;rotate_left
 · have K:Hid (V4 s.data.toList=(34::(s.data.toList.take k).flatMap qb)++[34]):=by rw [E_ J4];rfl
   generalize hl:(34::(s.data.toList.take k).flatMap qb:List UInt8)=l at*;clear hl
   go_wp2_with (at_builtin;refine wpList_append_own _ rfl _ _ 22 rfl w.heap.size 5 n (.int .u8 0) 1 1 underlying22 r q p o rfl K3 _ _ _ rfl (d.alloc _) ⟨wr.heap.size,0,none⟩ 1 1 [_] rfl rfl (cell_one_new _ _ _) (by intro u a;simp at a;subst a;rfl) (by unfold maxLen;omega) O0 J4 ?_;intro v' y g c _;have hcv:=UG (l:=l++[34]) (by rw [t_];exact g) O0)
   go_ret;have t:=(f.alloc f.size _).grown c J4 (fun j m=>(d.lt j m).1);exact ⟨by rw [K.out];rfl,t⟩
 have B:Hid (34::(s.data.toList.take (k+1)).flatMap qb=(34::(s.data.toList.take k).flatMap qb)++qb s[k]):=by rw [d_ s k H];simp [Hid]
 generalize hl:(34::(s.data.toList.take k).flatMap qb:List UInt8)=l at*;clear hl;have hby:(s[k].toNat:Int)<256:=by have:=s[k].toNat_lt;omega
 by_cases b:A9 s[k]=true
 · have x:Hid (qb s[k]=[s[k]]):=by unfold qb;rw [if_pos b];rfl
   unfold A9 at b;simp only [V7,Q_,Mr,Gi] at b;obtain ⟨⟨⟨p1,p2⟩,D⟩,C⟩:=b;have q3:((s[k].toNat:Int) !=34)=true:=by simpa using D
   have q4:((s[k].toNat:Int) !=92)=true:=by simpa using C
   go_wp2_with (at_builtin;refine wpList_append_own _ rfl _ _ 22 rfl w.heap.size 5 n (.int .u8 0) 1 1 underlying22 r q p o rfl K3 _ _ _ rfl (d.alloc _) ⟨wr.heap.size,0,none⟩ 1 1 [_] rfl rfl (cell_one_new _ _ _) (by intro u a;simp at a;subst a;rfl) (by unfold maxLen;omega) O0 J4 ?_;intro v' y g c _)
   go_roundw
   case rel=>
    have t:=(f.alloc f.size _).grown c J4 (fun j m=>(d.lt j m).1);refine ⟨k+1,O0,by go_num,?_,t,by have:=c.size;simp at this;omega⟩;rw [B.out,x.out,t_,Q7];exact g
   case measure=>simp [intOf];omega
 have x:Hid (qb s[k]=[92,Cb.getD (s[k].toNat / 16) 0,Cb.getD (s[k].toNat % 16) 0]):=by unfold qb;rw [if_neg b];rfl
 have F:=aF b;have k1:IntKind.u8.wrap ((s[k].toNat:Int) / 16)<16:=by rw [qx s[k]];omega
 have k2:0<=(s[k].toNat:Int).tmod 16:=by rw [Hz O0];omega
 have k3:(s[k].toNat:Int).tmod 16<16:=by rw [Hz O0];omega
 clear b;have A:∀ h1:(IntKind.u8.wrap ((s[k].toNat:Int) / 16)).toNat<Dy.size,Dy[(IntKind.u8.wrap ((s[k].toNat:Int) / 16)).toNat]'h1=Cb.getD (s[k].toNat / 16) 0:=fun h1=>by
  rw [OB];congr 1;rw [qx];omega
 have z:∀ h1:((s[k].toNat:Int).tmod 16).toNat<Dy.size,Dy[((s[k].toNat:Int).tmod 16).toNat]'h1=Cb.getD (s[k].toNat % 16) 0:=fun h1=>by
  rw [OB];congr 1
 have N:=Q0 A;have L:=Q0 z;clear A z;rcases F with h | h | ⟨h,J,I⟩ | ⟨h,J,I,h3⟩
 all_goals
  go_wp2_with fail
  go_region_law (refine yl rfl (.tmp 41) (.tmp 54) 22 rfl w.heap.size 5 n (.int .u8 0) 1 1 underlying22 r q p o rfl K3 _ _ _ rfl ((d.alloc _).drew) ⟨wr.heap.size,0,none⟩ 3 3 [_,_,_] rfl rfl (aP _ _ _ _ _) (by intro u a;simp at a;rcases a with rfl | rfl | rfl <;> rfl) (by unfold maxLen;omega) O0 J4 ?_;intro v' y g c)
  all_goals go_wp2
  all_goals go_roundw
  all_goals first
   | (refine ⟨k+1,O0,by go_num,?_,((f.alloc f.size _).drew).grown c J4 (fun j m=>(d.lt j m).1),by have:=c.size;simp at this;omega⟩;rw [B.out,x.out,t_,Q7];have E:=g;rw [show Lib.byteCells [92,Cb.getD (s[k].toNat / 16) 0,Cb.getD (s[k].toNat % 16) 0]=[.int .u8 92,.int .u8 (Dy[(IntKind.u8.wrap ((s[k].toNat:Int) / 16)).toNat]'(by show _<16;omega)).toNat,.int .u8 (Dy[((s[k].toNat:Int).tmod 16).toNat]'(by show _<16;omega)).toNat] by rw [N.out,L.out];rfl];exact E)
   | (simp [intOf];omega)
variable {w:World} {j k:Nat} {is:List I3}
def Z7 (op:Int):Bool:=op==7 || op==8 || op==9
def M8 (op:Int):Bool:=op==1 || op==6 || op==8
def Zb (x:I3):Bool:=decide (1<=x.op/\x.op<=11)&&(Z7 x.op || x.to==0)&&(M8 x.op || x.tx.toList.isEmpty)&&decide (0<=x.to/\x.to<=40)&&decide ((x.tx.size:Int)<=300)
def word (op:Int):List UInt8:=if op=1 then [108,105,116] else if op=2 then [97,114,103] else if op=3 then [97,115,107] else if op=4 then [104,97,115] else if op=5 then [112,117,116] else if op=6 then [99,97,116] else if op=7 then [108,105,110,101] else if op=8 then [105,102] else if op=9 then [103,111] else if op=10 then [101,110,100] else if op=11 then [102,97,105,108] else []
def Gc (op:Int):ByteArray:=⟨(word op).toArray⟩
def A7 (w:World):Prop:=∀ op:Nat,1<=op->op<=11->w.cell? ⟨9,op*3,none⟩=some (.string (Gc op))/\w.cell? ⟨9,op*3+1,none⟩=some (.bool (Z7 op))/\w.cell? ⟨9,op*3+2,none⟩=some (.bool (M8 op))
theorem Qk (h:A7 w):9<w.heap.size:=by
 obtain ⟨a,_⟩:=h 1 O0 O0;rcases U5 9 w.heap.size with h | h
 · exact h
 simp [World.cell?,Yj h] at a
theorem Rn {v:Value} (h0:9<w.heap.size) (h:w.cell? ⟨9,j,none⟩=some v):∀ o,(w.alloc o).cell? ⟨9,j,none⟩=some v:=fun o=>by
 rw [((F4 w.heap.size w).alloc P9 o).cell (by exact h0)];exact h
theorem o9 {w':World} (h:A7 w) (d:Below w.heap.size w w'):A7 w':=by
 intro op h1 h2;obtain ⟨a,b,c⟩:=h op h1 h2;have h0:9<w.heap.size:=by
  rcases U5 9 w.heap.size with h | h
  · exact h
  simp [World.cell?,Yj h] at a
 rw [d.cell (by exact h0),d.cell (by exact h0),d.cell (by exact h0)];exact ⟨a,b,c⟩
theorem zJ (op:Nat) (tx:ByteArray) (to:Int) (w:World) (_hs:tx.size<=1048700) (h1:1<=op) (h2:op<=11) (d:A7 w):
 Calls prog 162 #[.agg #[.int .i64 op,.string tx,.int .i64 to]] w fun e w'=>e=.returned (.bool (Zb ⟨op,tx,to⟩))/\Below w.heap.size w w':=by
 obtain ⟨g,b0,f⟩:=d op h1 h2;have h0:=Qk d;have a:=Rn h0 g;have b:=Rn h0 b0;have c:=Rn h0 f;clear d g b0 f;have h:Hid (Zb ⟨op,tx,to⟩=((Z7 op || to==0)&&(M8 op || tx.toList.isEmpty)&&decide (0<=to/\to<=40)&&decide ((tx.size:Int)<=300))):=by
  unfold Zb;simp only [show decide ((1:Int)<=(op:Int)/\(op:Int)<=11)=true by simp;omega,Bool.true_and];trivial
 have l:(1:Int)<=(op:Int):=O0;have k:(op:Int)<=11:=O0;generalize Z7 op=j at*;generalize M8 op=i at*;have hB:∀ o1 o2:Obj,Below w.heap.size w ((w.alloc o1).alloc o2):=fun o1 o2=>bA.alloc X0 _;cases j <;> cases i
 all_goals
  go_enter func162,ntmps162;go_wp2
  all_goals go_ret
  all_goals refine ⟨Y4 ?_,hB _ _⟩
  all_goals rw [h.out]
  all_goals clear a b c h hB h1 h2 l k
  all_goals first | (simp_all;done) | (simp_all;omega)
theorem c162 (x:I3) (w:World) (c:x.tx.size<=1048700) (b:A7 w):
 Calls prog 162 #[.agg #[.int .i64 x.op,.string x.tx,.int .i64 x.to]] w fun e w'=>e=.returned (.bool (Zb x))/\Below w.heap.size w w':=by
 by_cases h:1<=x.op/\x.op<=11
 · obtain ⟨n,d⟩:=A8 (show 0<=x.op by omega)
   have:=zJ n x.tx x.to w c O0 O0 b;rw [<- d] at this;exact this
 have f:Hid (Zb x=false):=by unfold Zb;rw [show decide (1<=x.op/\x.op<=11)=false by simpa using h];rfl
 clear b;have a:x.op<1\/11<x.op:=O0;rcases a with a | a
 all_goals
  go_enter func162,ntmps162;go_wp2
  all_goals go_ret
  all_goals exact ⟨Y4 f.out.symm,bA⟩
def Zd (is:List I3):Bool:=decide (1<=is.length/\is.length<=40)&&is.all Zb
theorem ry (h:k<is.length) (a:(is.take k).all Zb=true) (hx:Zb (is.getD k A_)=true):(is.take (k+1)).all Zb=true:=by
 rw [Rh h,Vi,a];have e:is.getD k A_=is[k]:=by simp [h]
 rw [e] at hx;simp [hx]
theorem AB (h:k<is.length) (hx:Zb (is.getD k A_)=false):is.all Zb=false:=by
 rw [List.all_eq_false];have e:is.getD k A_=is[k]:=by simp [h]
 rw [e] at hx;exact ⟨is[k],Ea h,by simp [hx]⟩
theorem c143 (a:Option Addr) (cap:Nat) (is:List I3) (w:World) (y:∀ i,(is.getD i A_).tx.size<=1048700) (hl:is.length<=1048576) (o:Da w a is) (g:A7 w):
 Calls prog 143 #[.agg #[.slice a is.length cap]] w fun e w'=>e=.returned (.bool (Zd is))/\Below w.heap.size w w':=by
 by_cases l:1<=is.length/\is.length<=40;rotate_left
 · have h:Hid (Zd is=false):=by unfold Zd;rw [show decide (1<=is.length/\is.length<=40)=false by simpa using l];rfl
   clear o g;by_cases h1:1<=is.length
   all_goals
    go_enter func143,ntmps143;go_wp2
    all_goals go_ret
    all_goals exact ⟨Y4 h.out.symm,bA⟩
 have h:Hid (Zd is=is.all Zb):=by unfold Zd;rw [show decide (1<=is.length/\is.length<=40)=true by simpa using l];rfl
 obtain ⟨r,hn2⟩:=l;have h0:=Qk g;have B:=Q0 g;obtain ⟨b,j,m⟩:=Zk o;rcases m with m | ⟨rfl,n,f⟩
 · rw [m] at r;simp at r
 clear o g;go_enter func143,ntmps143
 go_wp2_with fail
 go_loopw [18] (fun i wr=>∃ (k:Nat),k<=is.length/\i=.int .i64 k/\Below w.heap.size w wr/\Hid ((is.take k).all Zb=true)) (fun i _=>is.length - (intOf i).toNat)
 case atStart=>exact ⟨0,I5 _,rfl,bA,rfl⟩
 obtain ⟨k,hk,rfl,c,s⟩:=hrel;by_cases d:k<is.length;rotate_left
 · have q:Hid (Zd is=true):=by rw [h.out];have:=s.out;rwa [E_ O0] at this
   go_wp2;go_ret;exact ⟨Y4 q.out.symm,c⟩
 have g0:=(c.cell (p:=⟨b,j+k*3,none⟩) n).trans (f k d).1;have g1:=(c.cell (p:=⟨b,j+k*3+1,none⟩) n).trans (f k d).2.1;have g2:=(c.cell (p:=⟨b,j+k*3+2,none⟩) n).trans (f k d).2.2;have v:=y k;generalize hx:is.getD k A_=x at*;have u:=Q0 hx;clear hx;have HCE:=Q0 f;clear f
 go_wp2_with fail
 refine (c162 x _ v (o9 B.out (c.alloc c.size _))).mono ?_;rintro e w1 ⟨rfl,z⟩;have t:=(c.alloc c.size _).trans (z.mono (by have:=c.size;simp;omega));cases hok:Zb x
 · have q:Hid (Zd is=false):=by rw [h.out];exact AB d (by rw [u.out];exact hok)
   clear hok;go_wp2;go_ret;exact ⟨Y4 q.out.symm,t⟩
 have A:=Q0 (ry d s.out (by rw [u.out];exact hok));clear hok;go_wp2;go_roundw
 case rel=>exact ⟨k+1,O0,by go_num,t,A⟩
 case measure=>simp [intOf];omega
end Go.Proofs.YtdjaajjndfbpmaaGreatDoor
