import Derived.Test.YtkccjgajimjjdaaGreatDoortV2
import Derived.Lib.IndexBytes
import Derived.Lib.Split
import Derived.Lib.AppendStr
set_option maxRecDepth 100000
set_option linter.unusedVariables false
set_option maxHeartbeats 8000000
namespace Go.Proofs.YtkccjgajimjjdaaGreatDoor
open Proofs.Tryz Go.RowKit
variable{a l r:List UInt8}{b t:BY}{x y:M3}{w:World}{W c:Int}{ts:LB}{f:List (ByteArray×Value)}
theorem Jj(h:(32:UInt8)∉l):Y2 l=l/\J3 l=[]:=by
 have:=Zm (l:=l) (k:=l.length) (by rw[Ns,Yp];intro a ha;simp only[Yt];intro e;exact h (e▸ha)) X7 (.inl rfl);rw[Ns,Es O0]at this;exact this
theorem E8(h:(32:UInt8)∉a):Y2 (a++32::r)=a/\J3 (a++32::r)=r:=by
 have:=Zm (l:=a++32::r) (k:=a.length) (by rw[List.take_left,Yp];intro x ha;simp only[Yt];intro e;exact h (e▸ha)) E5 (.inr E5);rw[List.take_left]at this;refine⟨this.1,this.2.trans ?_⟩;rw[<- XE,List.drop_left];rfl
theorem Dn(h:(32:UInt8)∈l):l=Y2 l++32::J3 l/\(32:UInt8)∉Y2 l:=by
 obtain⟨a,r,rfl,ha⟩:=ZP h;obtain⟨h1,h2⟩:=E8 (r:=r) ha;rw[h1,h2];exact⟨rfl,ha⟩
theorem Wu(l:List UInt8):(Lib.index l [32]=-1/\(32:UInt8)∉l)\/(∃i:Nat,Lib.index l [32]=i/\(32:UInt8)∈l/\l.take i=Y2 l/\l.drop (i+1)=J3 l):=by
 rw[Lib.index_one];have hge:=Lib.indexByte_ge l 32;by_cases h:Lib.indexByte l 32=-1
 ·refine .inl ⟨h,λhm=>?_⟩;obtain⟨k,a,e⟩:=Ze hm;exact Lib.indexByte_none h k (by rw[L9 a,e])
 obtain⟨o,ho⟩:∃o:Nat,Lib.indexByte l 32=o:=⟨(Lib.indexByte l 32).toNat,O0⟩;obtain⟨h1,h2⟩:=Lib.indexByte_some ho;have hl:o<l.length:=by
  rcases D8 o l.length with h|h
  ·exact h
  rw[Zb h]at h1;cases h1
 have hm:=List.mem_of_getElem? h1;have:=Zm (l:=l) (k:=o) (by
  rw[Yp];intro x hx;simp only[Yt];rintro rfl;obtain⟨k,a,e⟩:=Ze hx;rw[U_]at a;rw[lF]at e;exact h2 k O0 (by rw[L9 O0,e])) O0 (.inr (by simp[List.getD,h1]))
 exact .inr ⟨o,ho,hm,this.1.symm,this.2.symm⟩
theorem NJ(l:List UInt8):(Lib.cut l [32]).1=Y2 l:=by
 unfold Lib.cut;rcases Wu l with⟨h,a⟩|⟨i,h,_,h1,_⟩
 ·rw[h,Y7 O0,(Jj a).1]
 rw[h,L8 O0];exact h1
def Le(l:List UInt8)(n:Nat):List (List UInt8):=Lib.splitK [32] 0 n l
theorem sJ(l:List UInt8):Le l 0=[l]:=rfl
theorem Di(n:Nat)(h:(32:UInt8)∉l):Le l n=[l]:=by
 cases n with
 | zero=>rfl
 | succ n=>
  unfold Le Lib.splitK;rcases Wu l with⟨a,_⟩|⟨i,_,hm,_⟩
  ·rw[a];rfl
  exact absurd hm h
theorem Xl(n:Nat)(h:(32:UInt8)∈l):Le l (n+1)=Y2 l::Le (J3 l) n:=by
 unfold Le;rw[Lib.splitK];rcases Wu l with⟨_,a⟩|⟨i,b,_,h1,h2⟩
 ·exact absurd h a
 rw[b,Y7 E5];simp only[wB,Qo,Oj,h1,h2]
theorem UF(l:List UInt8):(Lib.cut l [32]).2.1=J3 l:=by
 unfold Lib.cut;rcases Wu l with⟨h,a⟩|⟨i,h,_,_,h2⟩
 ·rw[h,Y7 O0,(Jj a).2]
 rw[h,L8 O0];exact h2
theorem FO(l:List UInt8):Le l (min 3 (l.length+1)-1)=Le l 2:=by
 rcases D8 l.length 2 with h|h
 ·cases l with
  | nil=>rw[Di _ E5,Di _ E5]
  | cons c r=>
   cases r with
   | cons d r=>simp at h;omega
   | nil=>
    by_cases a:(32:UInt8)∈[c]
    ·have e:J3 [c]=[]:=by
      simp only[Dk]at a;subst a;rfl
     have e1:min 3 ([c].length+1)-1=0+1:=rfl;rw[e1,Xl 0 a,Xl 1 a,e,Di _ E5,Di _ E5]
    rw[Di _ a,Di _ a]
 have:min 3 (l.length+1)=3:=O0;rw[this]
theorem FK{b q:List UInt8}(ha:(32:UInt8)∉a)(e:(32:UInt8)∉b)(h:a++32::r=b++32::q):a=b/\r=q:=by
 induction a generalizing b with
 | nil=>
  cases b with
  | nil=>simpa using h
  | cons c b=>simp at h;exact absurd (by rw[h.1];simp) e
 | cons d a ih=>
  cases b with
  | nil=>simp at h;exact absurd (by rw[h.1];simp) ha
  | cons c b=>
   simp only[Zf,Xi]at h;obtain⟨h1,h2⟩:=ih (λh=>ha (Og _ h)) (λh=>e (Og _ h)) h.2;exact⟨by rw[h.1,h1],h2⟩
theorem QJ{a:BY}(h:a.data.toList=b.data.toList):a=b:=Xf (Zl.1 h)
theorem Fa(h:X6 l=true):(32:UInt8)∉l/\(10:UInt8)∉l:=by
 simp only[X6,Ia,Yp]at h;constructor
 ·intro hm;have:=h.2 _ hm;revert this;decide
 intro hm;have:=h.2 _ hm;revert this;decide
theorem Lh(h:Uf x=true):X6 x.nm.data.toList=true/\X6 x.tl.data.toList=true/\(x.ar.size:Int)<=300:=by
 simp only[Uf,Ia,rf]at h;exact⟨h.1.1,h.1.2,h.2⟩
theorem Yc(x:M3):Yd x=x.nm.data.toList++32::(x.tl.data.toList++32::J6 x.ar.data.toList):=by simp[Yd]
theorem LK(x:M3):Yd x≠[]:=by rw[Yc];simp
theorem KC(hx:Uf x=true)(a:Uf y=true)(h:Yd x=Yd y):x=y:=by
 obtain⟨a1,a2,_⟩:=Lh hx;obtain⟨e,d,_⟩:=Lh a;rw[Yc,Yc]at h;obtain⟨e1,h⟩:=FK (Fa a1).1 (Fa e).1 h;obtain⟨c,h⟩:=FK (Fa a2).1 (Fa d).1 h;have b:=Um h;cases x;cases y;simp only[M3.mk.injEq];exact⟨QJ e1,QJ c,QJ b⟩
theorem tH(p:List (List UInt8)×List UInt8)(a:List UInt8)(h:(10:UInt8)∉a):(a++[10]).foldl (cst 10) p=(p.1++[p.2++a],[]):=by
 induction a generalizing p with
 | nil=>simp[cst]
 | cons c a ih=>
  have hc:c≠10:=λe=>h (by rw[e];simp);rw[Zf,pq,ih _ (λb=>h (Og _ b))];simp[cst,hc]
theorem JC(b:UInt8)(l:List UInt8)(p:List (List UInt8)×List UInt8)(N:Nat)(h1:∀x∈p.1,x.length<=N)(h2:p.2.length+l.length<=N):(∀x∈(l.foldl (cst b) p).1,x.length<=N)/\(l.foldl (cst b) p).2.length<=N:=by
 induction l generalizing p with
 | nil=>exact⟨h1,by simpa using h2⟩
 | cons c l ih=>
  rw[pq];apply ih
  ·unfold cst;split
   ·intro x hx;rcases Dh.1 hx with h|h
    ·exact h1 x h
    simp at h;subst h;simp at h2;omega
   exact h1
  simp only[u_]at h2;unfold cst;split
  ·simp;omega
  simp;omega
theorem Rh(b:UInt8)(l:List UInt8)(k:Nat):((x9 b l).getD k []).length<=l.length:=by
 obtain⟨h1,h2⟩:=JC b l ([],[]) l.length E5 E5;have h:∀x∈x9 b l,x.length<=l.length:=by
  intro x hx;unfold x9 V8 at hx;rcases Dh.1 hx with h|h
  ·exact h1 x h
  simp at h;subst h;exact h2
 rcases D8 k (x9 b l).length with a|a
 ·rw[List.getD,L9 a];exact h _ (Zj a)
 rw[List.getD,Zb a];simp
theorem Zn(b:UInt8)(l:List UInt8):1<=(x9 b l).length/\(x9 b l).length<=l.length+1:=by
 have:=Hw b l;unfold x9;rw[P9,Oj];omega
def Iy(l:List UInt8)(x:M3)(ok:Bool):Prop:=(ok=true->Uf x=true/\l=Yd x)/\(ok=false->∀y,Uf y=true->l≠Yd y)
theorem vT(h:∀y,Uf y=true->l≠Yd y):Iy l x false:=⟨(λh=>by cases h),λ_=>h⟩
theorem Kw(b:Uf y=true)(h:l=Yd y):((32:UInt8)∈l/\(32:UInt8)∈J3 l)/\Y2 l=y.nm.data.toList/\Y2 (J3 l)=y.tl.data.toList/\J3 (J3 l)=J6 y.ar.data.toList:=by
 obtain⟨h1,h2,_⟩:=Lh b;rw[Yc]at h;have w1:=E8 (r:=y.tl.data.toList++32::J6 y.ar.data.toList) (Fa h1).1;have a:=E8 (r:=J6 y.ar.data.toList) (Fa h2).1;rw[h,w1.1,w1.2,a.1,a.2];exact⟨⟨E5,E5⟩,rfl,rfl,rfl⟩
theorem zG{t:List UInt8}{ok:Bool}(hm:(32:UInt8)∈l)(f:(32:UInt8)∈J3 l)(a:(ok=true->J3 (J3 l)=J6 t)/\(ok=false->∀q,J3 (J3 l)≠J6 q)):
 (ok=true->Uf ⟨I4 (Y2 l),I4 (Y2 (J3 l)),I4 t⟩=true->Iy l ⟨I4 (Y2 l),I4 (Y2 (J3 l)),I4 t⟩ true)/\(¬(ok=true/\Uf ⟨I4 (Y2 l),I4 (Y2 (J3 l)),I4 t⟩=true)->∀y,Uf y=true->l≠Yd y):=by
 constructor
 ·intro h1 h2;refine⟨λ_=>⟨h2,?_⟩,(λh=>by cases h)⟩;rw[Yc];show l=Y2 l++32::(Y2 (J3 l)++32::J6 t);rw[<- a.1 h1,<- (Dn f).1,<- (Dn hm).1]
 intro d y b e;obtain⟨_,e1,g,c⟩:=Kw b e;apply d;cases ok
 ·exact absurd c (a.2 rfl _)
 refine⟨rfl,?_⟩;have:t=y.ar.data.toList:=Um ((a.1 rfl).symm.trans c);rw[this,e1,g];exact b
theorem lD{P:Program}{ops:Array Oper}{o:Oper}{a:Act}{K:Act->World->Prop}{Q:Exit->Act->World->Prop}{E:Prop}
 (m:o.guard=none) (s x:Operand) (t u:TypeId) (l:o.op=Op.call { callee:=Callee.builtin Builtin.append,args:=#[s,x],argTypes:=#[t,u] })
 (base:Nat) (e:TypeId) (i:TypeInfo) (h1:P.underlying t=some (.slice e)) (g:P.underlying u=some .string) (h2:P.info? e=some i) (z:i.zero=some (.int .u8 0)) (y:i.size=1) (r:i.bytes=1)
 (v:Value) (n:Nat) (xs:List Value) (h:a.eval s=v) (k:w.ownsRow base e 1 v n xs) (b:BY) (hx:a.eval x=.string b)
 (B:n+b.size<=maxLen) (A:n+b.size<=140737488355328) (p:base<=w.heap.size)
 (q:∀v' w',w'.ownsRow base e 1 v' (n+b.size) (xs++Lib.strCells b)->w.grownBy w' v.ownBlock->(v'=.slice none 0 0↔v=.slice none 0 0/\b.size=0)->K (a.put o.dst v') w'):
 if Region.wanted o (yielded ops a.tmps)=true then Oper.wp P o a w K Q else E:=by
 have hw:Region.wanted o (yielded ops a.tmps)=true:=by simp[Region.wanted,m]
 rw[L8 hw];obtain⟨v',w',j,f,d,c⟩:=Lib.run_append_own_string (P:=P) w base t u o.type e i h1 g h2 z y r v n xs k b B A p;unfold Oper.wp;simp[execOp,l,resolve,invoke,builtin,h,hx,j,Result.andThen];exact q v' w' f d c
theorem uO{base:Nat}{v:Value}{n:Nat}(h:w.ownsRow base 5 1 v n (Lib.byteCells l))(a:v≠.slice none 0 0):(convert 181 9 v).run prog w=.ok (.string ⟨l.toArray⟩) w:=by
 have d:=h;obtain⟨h1,h2⟩:=h;rcases h2 with⟨h0,_⟩|⟨g,cp,cur,rfl,hg,hh,_⟩
 ·exact absurd h0 a
 have hl:l.length=n:=by rw[Zq]at h1;omega
 have:=run_convert_bytes_arg (P:=prog) w 181 5 underlying181 underlying5 g 0 n cp (l.map λb=>(b.toNat:Int)) (by simpa using hl) (λi hi=>by
  rw[o9,d.cellAt i O0];have c:i<l.length:=O0;simp[Lib.byteCells,c]) 9 underlying9
 rw[this];have e:l.map ((λn:Int=>UInt8.ofNat n.toNat)∘λb=>(b.toNat:Int))=l:=(Tz (λb _=>E5)).trans (PD l);simp only[strOfNums,Nw,e]
theorem xh(h:vr c l=true):0<=c/\c<=7:=by
 unfold vr at h;by_cases h1:c=0\/c=1
 ·omega
 rw[Y7 h1]at h;by_cases h2:c=2
 ·omega
 rw[Y7 h2]at h;by_cases b:c=3
 ·omega
 rw[Y7 b]at h;by_cases a:c=4\/c=5\/c=7
 ·omega
 rw[Y7 a]at h;cases h
theorem Cj{x:L4}(h:ji x):0<=x.cd/\x.cd<=7:=by
 rcases h.2 with⟨_,⟨h,_⟩|⟨h,_⟩⟩|⟨_,h⟩
 ·omega
 ·omega
 exact xh h
def Gx(b:Bool):BY:=if b=true then⟨#[104,97,115,32]⟩ else⟨#[97,115,107,32]⟩
def Jq(x:L4):List UInt8:=(Gx x.has).data.toList++x.nm.data.toList++[32]++Dc x.cd x.tx++[10]
theorem Ez(x:L4):Gx x.has++x.nm++⟨#[32]⟩++I4 (Dc x.cd x.tx)++⟨#[10]⟩=I4 (Jq x):=by
 show I4 (Gx x.has).data.toList++I4 x.nm.data.toList++I4 [32]++I4 (Dc x.cd x.tx)++I4 [10]=_;rw[Qc,Qc,Qc,Qc];rfl
theorem vU(c:Int)(t:BY)(h0:0<=c)(h1:c<=1000):(I4 (Dc c t)).size<=100000004+3*t.size:=by
 have a:=Yy c h0 O0;have b:=og t;rw[P5]at a b ⊢;unfold Dc;simp only[P9,u_,Td];omega
theorem UM(b:Bool):(Gx b).size=4:=by cases b<;>rfl
def P_(ls:List L4):List UInt8:=ls.flatMap Jq
theorem Nz(ls:List L4)(k:Nat)(h:k<ls.length):P_ (ls.take (k+1))=P_ (ls.take k)++Jq (ls.getD k M_):=by
 unfold P_;have e:ls.take (k+1)=ls.take k++[ls.getD k M_]:=by
  rw[Yr];simp[List.getD,L9 h]
 rw[e,Qs];simp
theorem c77(a:OA)(cap:Nat)(ls:List L4)(w:World)(P:yg ls)(Y:∀i,(ls.getD i M_).le 1048576)(hat:S9 w a ls):
 Calls prog 77 #[.slice a ls.length cap] w λe w'=>e=.returned (.string (I4 (P_ ls)))/\Bw w w':=by
 obtain⟨J,Q,O,N,L⟩:=info_parts info5;obtain⟨b,off,hc⟩:=Yg hat;have HC:=U0 hc;have HS:=U0 Y;have HOK:=U0 P;have hl:=P.1
 go_in
 go_wp2;go_loopw[3,4] (λv z wr=>∃k:Nat,k<=ls.length/\z=.int .i64 k/\Hid (wr.ownsRow w.heap.size 5 1 v (P_ (ls.take k)).length (Lib.byteCells (P_ (ls.take k))))/\Hid (v≠.slice none 0 0)/\(P_ (ls.take k)).length<=k*110000000/\Below w.heap.size w wr) (λ_ z _=>ls.length-(RowKit.intOf z).toNat);exact⟨0,Nat.zero_le _,rfl,World.ownsRow_lit _ #[] 0 X7 (by unfold maxLen;omega) rfl,(λe=>by cases e),by simp[P_],Y6⟩;obtain⟨k,hk,rfl,q,C,hlen,f⟩:=hrel;by_cases s:k<ls.length
 ·obtain⟨ha,d,Z⟩:=Jd HC.out s;subst ha;obtain⟨p,n1,n2,n3⟩:=Z k s;have g0:=(f.cell (by exact d)).trans p;have g1:=(f.cell (by exact d)).trans n1;have g2:=(f.cell (by exact d)).trans n2;have g3:=(f.cell (by exact d)).trans n3;have h:=U9 d f.size;have r:=HS.out k;have F:=Cj (HOK.out.2 k s);have t:=U0 (Nz ls k s);generalize ls.getD k M_=x at*;generalize P_ (ls.take k)=l at*;have hki:(k:Int)<(ls.length:Int):=O0;have zr:=vU x.cd x.tx F.1 O0;have s1:=r.1;have s2:=r.2;have R:Hid ((Jq x).length<=110000000):=by
   have:=l7 ByteArray.size (Ez x);rw[P5]at this;simp only[jK]at this;have w4:=UM x.has;have e1:(⟨#[32]⟩:BY).size=1:=rfl;have e2:(⟨#[10]⟩:BY).size=1:=rfl;show(Jq x).length<=110000000;omega
  have k1:¬9223372036854775807<4+x.nm.size:=O0;have k2:¬9223372036854775807<4+x.nm.size+1:=O0;have k2':¬9223372036854775807<=4+x.nm.size:=O0;have k3:¬9223372036854775807<4+x.nm.size+1+(I4 (Dc x.cd x.tx)).size:=O0;have k4:¬9223372036854775807<4+x.nm.size+1+(I4 (Dc x.cd x.tx)).size+1:=O0;have k4':¬9223372036854775807<=4+x.nm.size+1+(I4 (Dc x.cd x.tx)).size:=O0;have e32:(⟨#[32]⟩:BY).size=1:=rfl;have e10:(⟨#[10]⟩:BY).size=1:=rfl;have a8m:k<=14:=O0;cases hh:x.has
  ·rw[hh]at g0 p;have I:Hid (Gx x.has=⟨#[97,115,107,32]⟩):=by rw[hh];rfl
   have o:Hid (⟨#[97,115,107,32]⟩++x.nm++⟨#[32]⟩++I4 (Dc x.cd x.tx)++⟨#[10]⟩=I4 (Jq x)):=by rw[<- I.out];exact Ez x
   have e4:(⟨#[97,115,107,32]⟩:BY).size=4:=rfl
   go_wp2_with fail
   refine wp_region_held_drew (S:=(λu=>u.cell? ⟨b,off+k*4,none⟩=some (.bool false)/\u.cell? ⟨b,off+k*4+1,none⟩=some (vS x.nm)/\u.cell? ⟨b,off+k*4+2,none⟩=some (vI x.cd)/\u.cell? ⟨b,off+k*4+3,none⟩=some (vS x.tx))) Y1 ?_ λhHeld=>?_
   · ((try dsimp only);go_keep)
   iterate 14 refine sq ?_
   refine rq 14 λK n=>?_;go_simp;refine(c78 x.cd x.tx _ F.1 O0 (by have:=r.2;omega)).mono ?_;rintro e y⟨rfl,H⟩;have c:Hid (Bw wr y):=((G5 _ _).drew).trans H;have b0:=(c.out.cell (by exact h)).trans g0;have b1:=(c.out.cell (by exact h)).trans g1;have b2:=(c.out.cell (by exact h)).trans g2;have b3:=(c.out.cell (by exact h)).trans g3
   go_wp2_with fail
   refine n _ _ ?_ λhHeld=>?_
   · ((try dsimp only);go_keep)
   try simp only[qq]
   iterate 2 refine sq ?_
   refine rq 17 λK n=>?_;refine lD rfl (.tmp 18) (.tmp 34) 181 9 rfl w.heap.size 5 J underlying181 underlying9 Q O N L _ _ _ rfl (ownsRow_below q c) _ rfl (by simp only[ByteArray.size_append];unfold maxLen;omega) (by simp only[ByteArray.size_append];omega) (by have h1:=c.out.size;have h2:=f.size;omega) ?_;intro v' U A E B;have g:=(J5 f c).grown E (by have h1:=c.out.size;have h2:=f.size;omega) (λj D=>(q.out.lt j D).1);have m0:=(g.cell (by exact d)).trans p;have X:=(g.cell (by exact d)).trans n1;have W:=(g.cell (by exact d)).trans n2;have V:=(g.cell (by exact d)).trans n3;refine n _ _ ?_ λhHeld=>?_
   · ((try dsimp only);go_keep)
   try simp only[qq]
   refine sq ?_;refine wdn ?_;have HF:Hid (ByteArray.size _=_/\_):=⟨l7 ByteArray.size o,o⟩;go_wp2;go_roundw
   ·refine⟨k+1,O0,by go_num,?_,λe=>C.out (B.1 e).1,by rw[t.out,P9];have:=R.out;omega,g⟩;rw[t.out,Qa,P9];have m:=A;rw[o.out]at m;rw[P5]at m;exact m
   exact Z9
  rw[hh]at g0 p;have I:Hid (Gx x.has=⟨#[104,97,115,32]⟩):=by rw[hh];rfl
  have o:Hid (⟨#[104,97,115,32]⟩++x.nm++⟨#[32]⟩++I4 (Dc x.cd x.tx)++⟨#[10]⟩=I4 (Jq x)):=by rw[<- I.out];exact Ez x
  have e4:(⟨#[104,97,115,32]⟩:BY).size=4:=rfl
  go_wp2_with fail
  refine wp_region_held_drew (S:=(λu=>u.cell? ⟨b,off+k*4,none⟩=some (.bool true)/\u.cell? ⟨b,off+k*4+1,none⟩=some (vS x.nm)/\u.cell? ⟨b,off+k*4+2,none⟩=some (vI x.cd)/\u.cell? ⟨b,off+k*4+3,none⟩=some (vS x.tx))) Y1 ?_ λhHeld=>?_
  · ((try dsimp only);go_keep)
  iterate 14 refine sq ?_
  refine rq 14 λK n=>?_;go_simp;refine(c78 x.cd x.tx _ F.1 O0 (by have:=r.2;omega)).mono ?_;rintro e y⟨rfl,H⟩;have c:Hid (Bw wr y):=((G5 _ _).drew).trans H;have b0:=(c.out.cell (by exact h)).trans g0;have b1:=(c.out.cell (by exact h)).trans g1;have b2:=(c.out.cell (by exact h)).trans g2;have b3:=(c.out.cell (by exact h)).trans g3
  go_wp2_with fail
  refine n _ _ ?_ λhHeld=>?_
  · ((try dsimp only);go_keep)
  try simp only[qq]
  iterate 2 refine sq ?_
  refine rq 17 λK n=>?_;refine lD rfl (.tmp 18) (.tmp 34) 181 9 rfl w.heap.size 5 J underlying181 underlying9 Q O N L _ _ _ rfl (ownsRow_below q c) _ rfl (by simp only[ByteArray.size_append];unfold maxLen;omega) (by simp only[ByteArray.size_append];omega) (by have h1:=c.out.size;have h2:=f.size;omega) ?_;intro v' U A E B;have g:=(J5 f c).grown E (by have h1:=c.out.size;have h2:=f.size;omega) (λj D=>(q.out.lt j D).1);have m0:=(g.cell (by exact d)).trans p;have X:=(g.cell (by exact d)).trans n1;have W:=(g.cell (by exact d)).trans n2;have V:=(g.cell (by exact d)).trans n3;refine n _ _ ?_ λhHeld=>?_
  · ((try dsimp only);go_keep)
  try simp only[qq]
  refine sq ?_;refine wdn ?_;have HF:Hid (ByteArray.size _=_/\_):=⟨l7 ByteArray.size o,o⟩;go_wp2;go_roundw
  ·refine⟨k+1,O0,by go_num,?_,λe=>C.out (B.1 e).1,by rw[t.out,P9];have:=R.out;omega,g⟩;rw[t.out,Qa,P9];have m:=A;rw[o.out]at m;rw[P5]at m;exact m
  exact Z9
 have HT:Hid (P_ (ls.take k)=P_ ls):=by rw[C_ O0];rfl
 have hcv:=uO q C;go_wp2;go_ret;exact⟨by rw[<- HT.out];rfl,f⟩
open Go.RowKit Go.Maps
def ZB(c:Int)(t:BY):BY:=I4 (g_ c t.data.toList)
def hC(t:BY):Int:=((t.data.toList.headD 0).toNat:Int)-48
def hT(t:BY):BY:=I4 (t.data.toList.drop 2)
def hV(t:BY):Value:=.agg #[.string t,.int .i64 (hC t),.string (hT t)]
def gT(W:Int)(t:BY):BY×Value:=(G7 t W,hV t)
theorem a0t{a:BY}(h:hV a=hV b):a=b:=by
 unfold hV at h;simp at h;exact h.1
theorem JH(l:List UInt8):(I4 l).data.toList=l:=by simp[I4]
theorem OL{u:List UInt8}(h:pF l c u true):hC (I4 l)=c/\hT (I4 l)=I4 u:=by
 obtain⟨hv,rfl⟩:=h.1 rfl;have:=Xh hv;unfold hC hT;rw[JH];refine⟨?_,rfl⟩;simp only[vJ,eF];omega
theorem KD(h:vr c t.data.toList=true):pF (ZB c t).data.toList c t.data.toList true:=by
 refine⟨λ_=>⟨h,?_⟩,(λh=>by cases h)⟩;unfold ZB;rw[JH];unfold g_;rw[L8 h]
theorem a3d(h:vr c t.data.toList=true):hV (ZB c t)=.agg #[.string (ZB c t),.int .i64 c,.string t]:=by
 obtain⟨h1,h2⟩:=OL (KD h);rw[Dp]at h1 h2;unfold hV;rw[h1,h2,Dp]
def uo(W:Int)(t:BY):LB->LB
 | []=>[t]
 | y::r=>if Ar (G7 t W) (G7 y W) then t::y::r else y::uo W t r
theorem pz(W:Int)(t:BY)(ts:LB):(uo W t ts).map (gT W)=oh (gT W t) (ts.map (gT W)):=by
 induction ts with
 | nil=>rfl
 | cons y r ih=>
  unfold uo;show _=if Ar (G7 t W) (G7 y W)=true then _ else _;split
  ·rfl
  simp[ih]
def qc(W:Int)(t:BY)(ts:LB):LB×Bool:=
 match ts.find? (λy=>decide (G7 y W=G7 t W)) with
 | some y=>(ts,decide (y=t))
 | none=>(uo W t ts,true)
def P8(W:Int):LB->LB×Bool->LB×Bool
 | [],s=>s
 | t::r,s=>P8 W r ((qc W t s.1).1,s.2&&(qc W t s.1).2)
theorem Yn(W:Int)(a b:LB)(s:LB×Bool):P8 W (a++b) s=P8 W b (P8 W a s):=by
 induction a generalizing s with
 | nil=>rfl
 | cons t r ih=>exact ih _
theorem rO(W:Int)(a:LB)(ts:LB):(P8 W a (ts,false)).2=false:=by
 induction a generalizing ts with
 | nil=>rfl
 | cons t r ih=>exact ih _
def Hl(W:Int)(ts:LB):Prop:=Asc (ts.map (gT W))
theorem SH{y:BY}(hA:Hl W ts)(a:y∈ts)(b:G7 y W=G7 t W):ts.find? (λy=>decide (G7 y W=G7 t W))=some y:=by
 cases hq:ts.find? (λy=>decide (G7 y W=G7 t W)) with
 | none=>exact absurd (by simpa using b) (IA.1 hq y a)
 | some z=>
  have h1:=qP hq;have h2:G7 z W=G7 t W:=by simpa using nJ hq
  have e1:=Wp hA (dF (f:=gT W) a);have e:=Wp hA (dF (f:=gT W) h1);have d:=e1;have c:=e;rw[b]at d;rw[h2,d]at c;rw[a0t (I_ c)]
theorem vM:ts.find? (λy=>decide (G7 y W=G7 t W))=none↔Ya (ts.map (gT W)) (G7 t W)=none:=by
 rw[Fb,IA];constructor
 ·intro h p b;obtain⟨y,a,rfl⟩:=zl.1 b;simpa[gT]using h y a
 intro h y a;simpa[gT]using h _ (dF (f:=gT W) a)
theorem EH(hA:Hl W ts):Hl W (qc W t ts).1:=by
 unfold qc
 cases hq:ts.find? (λy=>decide (G7 y W=G7 t W)) with
 | some y=>exact hA
 | none=>
  show Asc ((uo W t ts).map (gT W));rw[pz];exact ou hA (λp a=>Fb.1 (vM.1 hq) p a)
theorem Xz{a:LB}{b:Bool}(hA:Hl W ts):Hl W (P8 W a (ts,b)).1:=by
 induction a generalizing ts b with
 | nil=>exact hA
 | cons t r ih=>exact ih (EH hA)
structure Fr(W:Int)(l f:List (ByteArray×Value))(ts:LB):Prop where
 asc:Hl W ts
 perm:(ts.map (gT W)).Perm (f++l)
 la:Asc l
 fa:Asc f
 dis:∀p∈f,Ya l p.1=none
theorem Fr.start(h:Hl W ts):Fr W (ts.map (gT W)) [] ts:=⟨h,YE _,h,List.Pairwise.nil,E5⟩
theorem Fr.met{l:List (ByteArray×Value)}(h:Fr W l f ts){t:BY}{v:Value}(hv:Ya l (G7 t W)=some v\/Ya f (G7 t W)=some v):∃y,v=hV y/\qc W t ts=(ts,decide (y=t)):=by
 have hm:(G7 t W,v)∈ts.map (gT W):=h.perm.mem_iff.2 (by
  rcases hv with hv|hv
  ·exact pJ _ (Kz hv)
  exact JF _ (Kz hv))
 obtain⟨y,a,e⟩:=zl.1 hm;have e1:G7 y W=G7 t W:=l7 Prod.fst e;have b:hV y=v:=l7 Prod.snd e;refine⟨y,b.symm,?_⟩;unfold qc;rw[SH h.asc a e1]
theorem Fr.add{l:List (ByteArray×Value)}(h:Fr W l f ts){t:BY}(h1:Ya l (G7 t W)=none)(h2:Ya f (G7 t W)=none):qc W t ts=(uo W t ts,true)/\Fr W l (oh (gT W t) f) (uo W t ts):=by
 have b:Ya (ts.map (gT W)) (G7 t W)=none:=Fb.2 (λp a=>by
  rcases Dh.1 (h.perm.mem_iff.1 a)with a|a
  ·exact Fb.1 h2 p a
  exact Fb.1 h1 p a)
 have e:qc W t ts=(uo W t ts,true):=by unfold qc;rw[vM.2 b]
 refine⟨e,?_,?_,h.la,ou h.fa (λp a=>Fb.1 h2 p a),λp a=>?_⟩
 ·have:=EH (t:=t) h.asc;rw[e]at this;exact this
 ·rw[pz];exact(Ce _ _).trans ((h.perm.cons _).trans ((Ce (gT W t) f).symm.append_right l))
 rcases Xe.1 ((Ce _ _).mem_iff.1 a)with rfl|a
 ·exact h1
 exact h.dis p a
theorem Fr.done{l:List (ByteArray×Value)}(h:Fr W l f ts):Lib.mergeD (mapD l) (mapD f)=mapD (ts.map (gT W))/\l.length+f.length=ts.length:=by
 obtain⟨c,b,a⟩:=WI f l h.fa h.la h.dis;refine⟨?_,?_⟩
 ·rw[a,a0M c h.asc (b.trans h.perm.symm)]
 have:=h.perm.length_eq;simp at this;omega
def Pm(ls:List L4)(c:Int)(t:BY):LB:=(F_ ls++[(c,t)]).map λr=>ZB r.1 r.2
def Dy(W:Int)(x:L4):G3:=⟨x.has,x.nm,G7 (Xq x) W⟩
def Ri(W:Int)(m:M3)(ls:List L4)(c:Int)(t:BY):R3:=⟨uf m,ls.map (Dy W),G7 (ZB c t) W⟩
def st0:St:=⟨0,[],[]⟩
open Classical in
noncomputable def Vg(rs:List R3)(x:R3):List R3:=if x∈rs then rs else rs++[x]
open Classical in
noncomputable def Aa(s:St)(m:M3)(ls:List L4)(c:Int)(t:BY):St×Int:=
 if ¬Bh s then(st0,1) else if ¬Fg m ls c t then(st0,2) else
 if (P8 s.wd (Pm ls c t) (s.ts,true)).2=false then(st0,3) else
 if 300<(P8 s.wd (Pm ls c t) (s.ts,true)).1.length\/150<(Vg s.rs (Ri s.wd m ls c t)).length then(st0,4) else
 (⟨s.wd,(P8 s.wd (Pm ls c t) (s.ts,true)).1,Vg s.rs (Ri s.wd m ls c t)⟩,0)
theorem oL:∀(a b:List UInt8),Op.bytesLess a b=bytesBefore a b
 | [],[]=>by simp[Op.bytesLess,bytesBefore]
 | [],_::_=>by simp[Op.bytesLess,bytesBefore]
 | _::_,[]=>by simp[Op.bytesLess,bytesBefore]
 | x::r,y::s=>by
  have:=oL r s;simp only[Op.bytesLess,bytesBefore];rw[this]
theorem Hr{s:St}(h:Bh s):Hl s.wd s.ts:=by
 obtain⟨_,⟨_,h2⟩,_⟩:=h;have key:∀(ts:LB),(∀k,k<ts.length->k=0\/Ar (G7 (ts.getD (k-1) ByteArray.empty) s.wd) (G7 (ts.getD k ByteArray.empty) s.wd)=true)->Hl s.wd ts:=by
  intro ts
  induction ts with
  | nil=>intro _;exact List.Pairwise.nil
  | cons y r ih=>
   intro h;have hr:Hl s.wd r:=ih (λk b=>by
    by_cases h0:k=0
    ·exact .inl h0
    refine .inr ?_;have:=(h (k+1) Q8).resolve_left O0;simp only[jJ]at this;have e1:(y::r).getD (k+1) ByteArray.empty=r.getD k ByteArray.empty:=rfl;have d:(y::r).getD k ByteArray.empty=r.getD (k-1) ByteArray.empty:=by
     obtain⟨j,rfl⟩:∃j,k=j+1:=⟨k-1,O0⟩;rfl
    rw[e1,d]at this;exact this)
   refine Hz.2 ⟨λp a=>?_,hr⟩
   cases r with
   | nil=>cases a
   | cons z q=>
    have h1:=(h 1 E5).resolve_left O0;have c:Ar (G7 y s.wd) (G7 z s.wd)=true:=h1;rcases Xe.1 a with rfl|a
    ·exact c
    exact Iz c ((Hz.1 hr).1 p a)
 refine key s.ts λk b=>?_;rcases(h2 k b).2 with h0|h0
 ·exact .inl h0
 refine .inr ?_;rw[oL]at h0;unfold Ar;rw[<- ByteArray.toList_eq,<- ByteArray.toList_eq];exact h0
theorem c99(n:Int)(w:World):
 Calls prog 99 #[.int .i64 n] w λe w'=>zn (1<=n/\n<=200) e/\Bw w w':=by
 go_in
 go_wp2_with fail
 refine(a5j n _).mono ?_;rintro e w1⟨rfl,rfl⟩;go_wp2;go_ret;exact⟨⟨_,rfl,E5⟩,G5 _ _⟩
theorem PX(a b:BY)(w:World)(ha:a.size<=1048700)(hb:b.size<=1048700):
 Calls prog 204 #[.agg #[.string a,.string b]] w λe w'=>zn (X6 a.data.toList=true/\b.size<=300) e/\Bw w w':=by
 have c:∀o,Bw w (w.alloc o):=λo=>Y6
 go_in
 go_wp2_with fail
 refine(c148 a _ ha).mono ?_;rintro e w1⟨rfl,rfl⟩;cases hn:X6 a.data.toList
 ·have g:Hid (zn (X6 a.data.toList=true/\b.size<=300) (.returned (.bool false))):=S_ (λh=>by rw[hn]at h;cases h.1);go_wp2;go_ret;exact⟨g.out,c _⟩
 by_cases d:b.size<=300
 ·have f:decide ((b.size:Int)<=300)=true:=Q8;go_wp2;go_ret;exact⟨⟨true,rfl,⟨λ_=>⟨hn,d⟩,λ_=>rfl⟩⟩,c _⟩
 have f:decide ((b.size:Int)<=300)=false:=Q8;go_wp2;go_ret;exact⟨⟨false,rfl,⟨(λh=>by cases h),λh=>absurd h.2 d⟩⟩,c _⟩
theorem c74(a b:BY)(w:World)(ha:a.size<=1048700)(hb:b.size<=1048700):
 Calls prog 74 #[.agg #[.string a,.string b]] w λe w'=>zn (X6 a.data.toList=true/\b.size<=300) e/\Bw w w':=by
 have c:∀o,Bw w (w.alloc o):=λo=>Y6
 go_in
 go_wp2_with fail
 refine(VO a _ ha).mono ?_;rintro e w1⟨rfl,rfl⟩;cases hn:X6 a.data.toList
 ·have g:Hid (zn (X6 a.data.toList=true/\b.size<=300) (.returned (.bool false))):=S_ (λh=>by rw[hn]at h;cases h.1);go_wp2;go_ret;exact⟨g.out,c _⟩
 by_cases d:b.size<=300
 ·have f:decide ((b.size:Int)<=300)=true:=Q8;go_wp2;go_ret;exact⟨⟨true,rfl,⟨λ_=>⟨hn,d⟩,λ_=>rfl⟩⟩,c _⟩
 have f:decide ((b.size:Int)<=300)=false:=Q8;go_wp2;go_ret;exact⟨⟨false,rfl,⟨(λh=>by cases h),λh=>absurd h.2 d⟩⟩,c _⟩
theorem a4e(a b:BY)(w:World)(ha:a.size<=1048700)(d:b.size<=1048700):
 Calls prog 377 #[.agg #[.string a,.string b]] w λe w'=>zn (X6 a.data.toList=true/\b.size<=300) e/\Bw w w':=by
 have f:∀o,Bw w (w.alloc o):=λo=>Y6
 go_in
 go_wp2_with fail
 refine(PX a b _ ha d).mono ?_;rintro e w1⟨⟨r,rfl,hr⟩,c⟩;go_wp2;go_ret;exact⟨⟨r,rfl,hr⟩,(f _).trans (c.mono E5)⟩
theorem a3O(a:BY)(w:World)(ha:a.size<=1048700):
 Calls prog 379 #[.string a] w λe w'=>zn (X6 a.data.toList=true) e/\Bw w w':=by
 go_in
 go_wp2_with fail
 refine(c148 a _ ha).mono ?_;rintro e w1⟨rfl,rfl⟩;go_wp2;go_ret;exact⟨⟨_,rfl,Iff.rfl⟩,G5 _ _⟩
theorem a3Q(w:World):
 Calls prog 383 #[.agg #[]] w λe w'=>zn True e/\Bw w w':=by
 have a:∀o,Bw w (w.alloc o):=λo=>Y6
 go_in
 go_wp2;go_ret;exact⟨Yk trivial,by first|exact a _|exact G5 _ _⟩
theorem a4h(m:M3)(ls:List L4)(c:Int)(t:BY)(a:OA)(d:Nat)(w:World)(hm:m.le 1048576)(hl:ls.length<=1048576)(s:∀i,(ls.getD i M_).le 1048576)(ht:t.size<=1048576)(x:S9 w a ls):
 Calls prog 381 #[.agg #[.string m.nm,.string m.tl,.string m.ar,.slice a ls.length d,.int .i64 c,.string t]] w λe w'=>zn (Fg m ls c t) e/\Bw w w':=by
 have z:∀o,Bw w (w.alloc o):=λo=>Y6
 go_in
 go_wp2_with fail
 refine(oW m _ ⟨I8 hm.1 O0,I8 hm.2.1 O0,I8 hm.2.2 O0⟩).mono ?_;rintro e w1⟨rfl,k⟩;have f:Below (w.heap.size+1) (w.alloc (.cells #[vS m.nm,vS m.tl,vS m.ar,vL a ls.length d,vI c,vS t] 250)) w1:=YD k;have p:=(a_ w [vS m.nm,vS m.tl,vS m.ar,vL a ls.length d,vI c,vS t] 250).below f O0;have j:=(z _).trans (f.mono O0);have q:w.heap.size<w1.heap.size:=by have h:=f.size;simp at h;omega
 have k3:=p 3 _ rfl;clear k;cases hn:Uf m
 ·have b:Hid (zn (Fg m ls c t) (.returned (.bool false))):=S_ (λh=>by have h1:=h.1;rw[hn]at h1;cases h1);go_wp2;go_ret;exact⟨b.out,j⟩
 go_wp2_with fail
 refine(a1i a d ls _ hl s (U7 x j)).mono ?_;rintro e w2⟨⟨r,rfl,hr⟩,g⟩;have l:=J5 j g;have n:=p.below g q;have k4:=n 4 _ rfl;have k5:=n 5 _ rfl;clear g;cases r
 ·have b:Hid (zn (Fg m ls c t) (.returned (.bool false))):=S_ (λh=>absurd (hr.2 h.2.1) Z5);clear hr;go_wp2;go_ret;exact⟨b.out,l⟩
 have u:=hr.1 rfl;clear hr
 go_wp2_with fail
 refine(c203 c t _ O0).mono ?_;rintro e w3⟨rfl,v⟩;have y:=J5 l v;have b:Hid (zn (Fg m ls c t) (.returned (.bool (vr c t.data.toList)))):=⟨_,rfl,⟨λh=>⟨hn,u,h⟩,λh=>h.2.2⟩⟩;go_wp2;go_ret;exact⟨b.out,y⟩
def Ow(A B:Nat)(u:World)(a:OA)(t:TypeId)(m:Nat):Prop:=∃g xs,a=some ⟨g,0,none⟩/\A<=g/\g<B/\Cl u g t xs/\m<=xs.length
structure Md(A B:Nat)(S:List TypeId)(w w':World):Prop where
 os:w'.os=w.os
 tape:w'.tape=w.tape
 output:w'.output=w.output
 size:w.heap.size<=w'.heap.size
 block:∀k,k<w.heap.size->k<A\/B<=k->w'.heap[k]?=w.heap[k]?
 sh:∀k t xs,Cl w k t xs->∃ys,ys.length=xs.length/\Cl w' k t ys
 ty:∀k t xs,Cl w k t xs->t∉S->w'.heap[k]?=w.heap[k]?
section
variable{A B A' B' N m g j:Nat}{w w' w'':World}{a:OA}{t:TypeId}{xs:List Value}{v:Value}{S S':List TypeId}
theorem Md.refl:Md A B S w w:=⟨rfl,rfl,rfl,J8 _,λ_ _ _=>rfl,λk t xs h=>⟨xs,rfl,h⟩,λ_ _ _ _ _=>rfl⟩
theorem Md.tr(h:Md A B S w w')(k:Md A B S' w' w''):Md A B (S++S') w w'':=⟨k.os.trans h.os,k.tape.trans h.tape,k.output.trans h.output,I8 h.size k.size,λq a b=>(k.block q (U9 a h.size) b).trans (h.block q a b),λq t xs c=>by
 obtain⟨ys,h1,h2⟩:=h.sh q t xs c;obtain⟨zs,f,d⟩:=k.sh q t ys h2;exact⟨zs,f.trans h1,d⟩,λq t xs c ht=>by
 have e:=h.ty q t xs c (λh=>ht (JF _ h));exact(k.ty q t xs (e.trans c) (λh=>ht (pJ _ h))).trans e⟩
theorem Md.mono(h:Md A B S w w')(h1:A'<=A)(h2:B<=B')(b:∀t∈S,t∈S'):Md A' B' S' w w':=⟨h.os,h.tape,h.output,h.size,λk a hn=>h.block k a O0,h.sh,λk t xs c ht=>h.ty k t xs c (λh=>ht (b _ h))⟩
theorem Md.trans(h:Md A B S w w')(k:Md A B S w' w''):Md A B S w w'':=(h.tr k).mono X7 X7 (λt h=>by simpa using h)
theorem Md.of(h:Bw w w'):Md A B S w w':=⟨h.os,h.tape,h.output,h.size,λk a _=>h.block k a,λk t xs c=>⟨xs,rfl,c.below h c.lt⟩,λk t xs c _=>h.block k c.lt⟩
theorem Md.below(h:Md A B S w w')(h1:N<=A)(h2:N<=w.heap.size):Below N w w':=⟨h.os,h.tape,h.output,h.size,λk hk=>h.block k O0 O0⟩
theorem Md.on{ys:List Value}(h:Md A B S w w')(h1:A<=g)(h2:g<B)(ht:t∈S)(o:Jr g w' w'')(c:Cl w' g t xs)(d:Cl w'' g t ys)(hl:ys.length=xs.length:=by simp):Md A B S w w'':=
 have one:∀{a zs},Cl w' g a zs->a=t/\zs=xs:=λc2=>by
  have:=c.symm.trans c2;injection this with e;injection e with e1 e2;exact⟨e2.symm,(List.toArray_inj e1).symm⟩
 h.trans ⟨o.os,o.tape,o.output,uh o.size.symm,λk _ b=>o.block k O0,λk a zs c2=>by
  by_cases e:k=g
  ·subst e;obtain⟨rfl,rfl⟩:=one c2;exact⟨ys,hl,d⟩
  exact⟨zs,rfl,c2.on o e⟩,λk a zs c2 b=>o.block k (λe=>by
  subst e;exact b ((one c2).1▸ht))⟩
theorem Md.set(h:Md A B S w w')(h1:A<=g)(h2:g<B)(ht:t∈S)(hc:∃xs,Cl w' g t xs)(j:Nat)(v:Value):Md A B S w (w'.setCell ⟨g,j,none⟩ v):=by
 obtain⟨xs,c⟩:=hc;exact h.on h1 h2 ht (O_ w' g j v) c (c.set j v)
theorem Ow.md(h:Ow A' B' w a t m)(k:Md A B S w w'):Ow A' B' w' a t m:=by
 obtain⟨g,xs,h1,h2,d,c,h5⟩:=h;obtain⟨ys,h6,b⟩:=k.sh g t xs c;exact⟨g,ys,h1,h2,d,b,by omega⟩
theorem Ow.mono(h:Ow A B w a t m)(h1:A'<=A)(h2:B<=B'):Ow A' B' w a t m:=by
 obtain⟨g,xs,h1,h2,h3,c,b⟩:=h;exact⟨g,xs,h1,O0,O0,c,b⟩
end
section
variable{A B A' B' N m g j n L c p:Nat}{w w' w'':World}{a:OA}{t ti:TypeId}{xs:List Value}{v:Value}{S:List TypeId}
def zI(B:Nat)(u:World)(g:Nat)(t:TypeId)(L n m j:Nat)(ti:TypeId)(c:Nat):Prop:=(∃xs,Cl u g t xs/\L<=xs.length)/\∀i,i<n->∃ai ni ci,u.cell? ⟨g,i*m+j,none⟩=some (.slice ai ni ci)/\ni<=1048576/\Ow (g+1) B u ai ti (ni*c)
theorem zI.cell(h:zI B w g t L n m j ti c)(hp:p<L):∃v,w.cell? ⟨g,p,none⟩=some v:=by
 obtain⟨⟨xs,h1,h2⟩,_⟩:=h;exact⟨xs[p],by rw[h1.cell,L9 O0]⟩
theorem zI.opn(h:zI B w g t L n m j ti c)(p:Nat):w.frozen? ⟨g,p,none⟩=false:=by
 obtain⟨⟨xs,h1,h2⟩,_⟩:=h;exact h1.opn p
theorem zI.set(h:zI B w g t L n m j ti c)(v:Value)(u:∀i,i<n->p≠i*m+j):zI B (w.setCell ⟨g,p,none⟩ v) g t L n m j ti c:=by
 have o:=O_ w g p v;obtain⟨⟨xs,h1,h2⟩,x⟩:=h;refine⟨⟨_,h1.set p v,by simpa using h2⟩,λi a=>?_⟩;obtain⟨z,b,y,s,r,q,ys,l,k,f,e,d⟩:=x i a;refine⟨z,b,y,?_,r,q,ys,l,k,f,e.on o O0,d⟩;rw[(h1.set p v).cell,H_ (u i a),<- h1.cell];exact s
theorem zI.md(h:zI B w g t L n m j ti c)(k:Md A' B' S w w')(a:w'.heap[g]?=w.heap[g]?):zI B w' g t L n m j ti c:=by
 obtain⟨⟨xs,h1,h2⟩,o⟩:=h;refine⟨⟨xs,a.trans h1,h2⟩,λi l=>?_⟩;obtain⟨q,b,p,f,e,d⟩:=o i l;exact⟨q,b,p,by rw[show w'.cell? (aA g (i*m+j))=w.cell? (aA g (i*m+j)) by simp only[World.cell?,a]];exact f,e,d.md k⟩
theorem zI.lt(h:zI B w g t L n m j ti c):g<w.heap.size:=by
 obtain⟨⟨xs,h1,h2⟩,_⟩:=h;exact h1.lt
theorem zI.call(h:zI B w g t L n m j ti c)(k:Bw w w'):zI B w' g t L n m j ti c:=h.md (Md.of (A:=0) (B:=0) (S:=[]) k) (k.block g h.lt)
end
theorem QT(k:Nat):∀n:Int,0<=n->n<10^(k+1)->(dec n).length<=k+1:=by
 induction k with
 | zero=>exact λn h0 h=>by rw[dec_lt n (by simpa using h)];simp
 | succ k ih=>
  intro n h0 h;by_cases h10:n<10
  ·rw[dec_lt n h10];simp
  rw[Wj n O0,P9];have:=ih (n/10) O0 (Int.ediv_lt_of_lt_mul (by decide) (by rw[<- Int.pow_succ];exact h));simpa using this
theorem zi(K:Int)(w:World)(h1:1<=K)(h2:K<=100000000000000):
 Calls prog 108 #[.int .i64 K] w λe w'=>e=.returned (.string (I4 (109::dec K)))/\Bw w w':=by
 have hcv:=SL;have hcd:=ZU;have hz:∀y,(strOfNums [y]).size=1:=λy=>strOfNums_size [y];have hdl:=QT 14 K O0 (by have:(10:Int)^(14+1)=1000000000000000:=rfl;omega)
 go_in
 go_wp2;go_loopw[0,3] (λk o wr=>∃(m:Int)(l:List UInt8),0<=m/\m<=100000000000000/\k=.int .i64 m/\o=.string (I4 l)/\Hid (dec K=if m=0 then l else dec m++l)/\Below w.heap.size w wr) (λk _ _=>(RowKit.intOf k).toNat);exact⟨K,[],O0,h2,rfl,rfl,by rw[Y7 O0];simp[Hid],G5 _ _⟩;obtain⟨m,l,hm0,hm1,rfl,rfl,hl,b⟩:=hrel;by_cases hlt:0<m
 ·have c:(I4 l).size<=100000001:=by
   have:=hl.out;rw[Y7 O0]at this;have:=l7 List.length this;rw[P9]at this;rw[P5];omega
  have a:Hid (dec K=if m/10=0 then UInt8.ofNat (48+m%10).toNat::l else dec (m/10)++(UInt8.ofNat (48+m%10).toNat::l)):=by
   have h:=hl.out;rw[Y7 O0]at h;by_cases h10:m<10
   ·rw[dec_lt m h10]at h;rw[L8 O0,show m%10=m by omega];exact h
   rw[Wj m O0]at h;rw[Y7 O0];exact h.trans E5
  go_wp2;go_roundw;exact⟨m/10,_,O0,O0,rfl,by rw[sS],a,b.alloc b.size _⟩;exact Z9
 obtain rfl:m=0:=O0;have a:Hid (dec K=l):=by have h:=hl.out;rwa[L8 rfl]at h
 have c:(I4 l).size<=100000001:=by rw[P5,<- a.out];omega
 go_wp2;go_ret;exact⟨Yq (by rw[a.out];simp only[pX,Qc];rfl),b⟩
section
variable{P:Program}{ops:Array Oper}{Q:Exit->Act->World->Prop}
