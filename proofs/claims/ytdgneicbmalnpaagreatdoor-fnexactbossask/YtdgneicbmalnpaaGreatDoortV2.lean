import Derived.Test.YtdgneicbmalnpaaGreatDooreY8
import Derived.Test.YtdgneicbmalnpaaGreatDoortT0
set_option maxRecDepth 99999
set_option linter.all false
set_option maxHeartbeats 0
open Go.Value renaming slice->Sa,string->Sb,int->Sc,pointer->Sd
open Go.IntKind renaming i64->Se
open Go.Ending renaming returned->Sf
namespace Go.Proofs.YtdgneicbmalnpaaGreatDoor
open Proofs.Tryz Go.RowKit
variable{a l q r:List UInt8}{x y:M3}{w:World}
theorem Jj(h:(32:UInt8)∉l):Y1 l=l/\Y2 l=[]:=by
 have:=Ho (l:=l) (k:=l.length) (by rw[Xt,Uo];intro a ha;simp only[ru];intro e;exact h (e▸ha)) A8 (.inl rfl);rw[Xt,Ht O0]at this;exact this
theorem G8(h:(32:UInt8)∉a):Y1 (a++32::r)=a/\Y2 (a++32::r)=r:=by
 have:=Ho (l:=a++32::r) (k:=a.length) (by rw[List.take_left,Uo];intro x ha;simp only[ru];intro e;exact h (e▸ha)) J4 (.inr J4);rw[List.take_left]at this;refine⟨this.1,this.2.trans ?_⟩;rw[<- kG,List.drop_left];rfl
theorem Pn(h:(32:UInt8)∈l):l=Y1 l++32::Y2 l/\(32:UInt8)∉Y1 l:=by
 obtain⟨a,r,rfl,ha⟩:=yV h;obtain⟨h1,h2⟩:=G8 (r:=r) ha;rw[h1,h2];exact⟨rfl,ha⟩
theorem Nv(l:List UInt8):(Lib.index l [32]=-1/\(32:UInt8)∉l)\/(∃i:Nat,Lib.index l [32]=i/\(32:UInt8)∈l/\l.take i=Y1 l/\l.drop (i+1)=Y2 l):=by
 rw[Lib.index_one];have hge:=Lib.indexByte_ge l 32;by_cases h:Lib.indexByte l 32=-1
 ·refine .inl ⟨h,λhm=>?_⟩;obtain⟨k,hk,e⟩:=Qe hm;exact Lib.indexByte_none h k (by rw[V8 hk,e])
 obtain⟨o,ho⟩:∃o:Nat,Lib.indexByte l 32=o:=⟨(Lib.indexByte l 32).toNat,O0⟩;obtain⟨h1,h2⟩:=Lib.indexByte_some ho;have hl:o<l.length:=by
  rcases Z7 o l.length with h|h
  ·exact h
  rw[Eb h]at h1;cases h1
 have hm:=List.mem_of_getElem? h1;have:=Ho (l:=l) (k:=o) (by
  rw[Uo];intro x hx;simp only[ru];rintro rfl;obtain⟨k,hk,e⟩:=Qe hx;rw[L_]at hk;rw[IB]at e;exact h2 k O0 (by rw[V8 O0,e])) O0 (.inr (by simp[List.getD,h1]))
 exact .inr ⟨o,ho,hm,this.1.symm,this.2.symm⟩
theorem IK(l:List UInt8):(Lib.cut l [32]).1=Y1 l:=by
 unfold Lib.cut;rcases Nv l with⟨h,a⟩|⟨i,h,_,h1,_⟩
 ·rw[h,U7 O0,(Jj a).1]
 rw[h,D8 O0];exact h1
def Ie(l:List UInt8)(n:Nat):List (List UInt8):=Lib.splitK [32] 0 n l
theorem BJ(l:List UInt8):Ie l 0=[l]:=rfl
theorem Ii(n:Nat)(h:(32:UInt8)∉l):Ie l n=[l]:=by
 cases n with
 | zero=>rfl
 | succ n=>
  unfold Ie Lib.splitK;rcases Nv l with⟨a,_⟩|⟨i,_,hm,_⟩
  ·rw[a];rfl
  exact absurd hm h
theorem Xl(n:Nat)(h:(32:UInt8)∈l):Ie l (n+1)=Y1 l::Ie (Y2 l) n:=by
 unfold Ie;rw[Lib.splitK];rcases Nv l with⟨_,a⟩|⟨i,b,_,h1,h2⟩
 ·exact absurd h a
 rw[b,U7 J4];simp only[Yz,Zo,jk,h1,h2]
theorem LG(l:List UInt8):(Lib.cut l [32]).2.1=Y2 l:=by
 unfold Lib.cut;rcases Nv l with⟨h,a⟩|⟨i,h,_,_,h2⟩
 ·rw[h,U7 O0,(Jj a).2]
 rw[h,D8 O0];exact h2
theorem EP(l:List UInt8):Ie l (min 3 (l.length+1)-1)=Ie l 2:=by
 rcases Z7 l.length 2 with h|h
 ·cases l with
  | nil=>rw[Ii _ J4,Ii _ J4]
  | cons c r=>
   cases r with
   | cons d r=>simp at h;omega
   | nil=>
    by_cases a:(32:UInt8)∈[c]
    ·have e:Y2 [c]=[]:=by
      simp only[Zj]at a;subst a;rfl
     have e1:min 3 ([c].length+1)-1=0+1:=rfl;rw[e1,Xl 0 a,Xl 1 a,e,Ii _ J4,Ii _ J4]
    rw[Ii _ a,Ii _ a]
 have:min 3 (l.length+1)=3:=O0;rw[this]
theorem QL{b:List UInt8}(ha:(32:UInt8)∉a)(e:(32:UInt8)∉b)(h:a++32::r=b++32::q):a=b/\r=q:=by
 induction a generalizing b with
 | nil=>
  cases b with
  | nil=>simpa using h
  | cons c b=>simp at h;exact absurd (by rw[h.1];simp) e
 | cons d a ih=>
  cases b with
  | nil=>simp at h;exact absurd (by rw[h.1];simp) ha
  | cons c b=>
   simp only[jd,Yi]at h;obtain⟨h1,h2⟩:=ih (λh=>ha (Ug _ h)) (λh=>e (Ug _ h)) h.2;exact⟨by rw[h.1,h1],h2⟩
theorem BK{a b:BY}(h:a.data.toList=b.data.toList):a=b:=jg (Yl.1 h)
theorem Ja(h:Y5 l=true):(32:UInt8)∉l/\(10:UInt8)∉l:=by
 simp only[Y5,Fa,Uo]at h;constructor
 ·intro hm;have:=h.2 _ hm;revert this;decide
 intro hm;have:=h.2 _ hm;revert this;decide
theorem Wh(h:ig x=true):Y5 x.nm.data.toList=true/\Y5 x.tl.data.toList=true/\(x.ar.size:Int)<=300:=by
 simp only[ig,Fa,Pe]at h;exact⟨h.1.1,h.1.2,h.2⟩
theorem Ed(x:M3):je x=x.nm.data.toList++32::(x.tl.data.toList++32::Z5 x.ar.data.toList):=by simp[je]
theorem QM(x:M3):je x≠[]:=by rw[Ed];simp
theorem oD(hx:ig x=true)(a:ig y=true)(h:je x=je y):x=y:=by
 obtain⟨a1,a2,_⟩:=Wh hx;obtain⟨e,d,_⟩:=Wh a;rw[Ed,Ed]at h;obtain⟨e1,h⟩:=QL (Ja a1).1 (Ja e).1 h;obtain⟨c,h⟩:=QL (Ja a2).1 (Ja d).1 h;have b:=zn h;cases x;cases y;simp only[M3.mk.injEq];exact⟨BK e1,BK c,BK b⟩
theorem GI(p:List (List UInt8)×List UInt8)(a:List UInt8)(h:(10:UInt8)∉a):(a++[10]).foldl (cst 10) p=(p.1++[p.2++a],[]):=by
 induction a generalizing p with
 | nil=>simp[cst]
 | cons c a ih=>
  have hc:c≠10:=λe=>h (by rw[e];simp);rw[jd,Tq,ih _ (λb=>h (Ug _ b))];simp[cst,hc]
theorem ZC(b:UInt8)(l:List UInt8)(p:List (List UInt8)×List UInt8)(N:Nat)(h1:∀x∈p.1,x.length<=N)(h2:p.2.length+l.length<=N):(∀x∈(l.foldl (cst b) p).1,x.length<=N)/\(l.foldl (cst b) p).2.length<=N:=by
 induction l generalizing p with
 | nil=>exact⟨h1,by simpa using h2⟩
 | cons c l ih=>
  rw[Tq];apply ih
  ·unfold cst;split
   ·intro x hx;rcases Ph.1 hx with h|h
    ·exact h1 x h
    simp at h;subst h;simp at h2;omega
   exact h1
  simp only[f_]at h2;unfold cst;split
  ·simp;omega
  simp;omega
theorem zi(b:UInt8)(l:List UInt8)(k:Nat):((Z8 b l).getD k []).length<=l.length:=by
 obtain⟨h1,h2⟩:=ZC b l ([],[]) l.length J4 J4;have h:∀x∈Z8 b l,x.length<=l.length:=by
  intro x hx;unfold Z8 P8 at hx;rcases Ph.1 hx with h|h
  ·exact h1 x h
  simp at h;subst h;exact h2
 rcases Z7 k (Z8 b l).length with hk|hk
 ·rw[List.getD,V8 hk];exact h _ (dh hk)
 rw[List.getD,Eb hk];simp
theorem Zn(b:UInt8)(l:List UInt8):1<=(Z8 b l).length/\(Z8 b l).length<=l.length+1:=by
 have:=Xw b l;unfold Z8;rw[Q9,jk];omega
def Tz(l:List UInt8)(x:M3)(ok:Bool):Prop:=(ok=true->ig x=true/\l=je x)/\(ok=false->∀y,ig y=true->l≠je y)
theorem mV(h:∀y,ig y=true->l≠je y):Tz l x false:=⟨(λh=>by cases h),λ_=>h⟩
theorem gy(b:ig y=true)(h:l=je y):((32:UInt8)∈l/\(32:UInt8)∈Y2 l)/\Y1 l=y.nm.data.toList/\Y1 (Y2 l)=y.tl.data.toList/\Y2 (Y2 l)=Z5 y.ar.data.toList:=by
 obtain⟨h1,h2,_⟩:=Wh b;rw[Ed]at h;have w1:=G8 (r:=y.tl.data.toList++32::Z5 y.ar.data.toList) (Ja h1).1;have a:=G8 (r:=Z5 y.ar.data.toList) (Ja h2).1;rw[h,w1.1,w1.2,a.1,a.2];exact⟨⟨J4,J4⟩,rfl,rfl,rfl⟩
theorem NI{t:List UInt8}{ok:Bool}(hm:(32:UInt8)∈l)(f:(32:UInt8)∈Y2 l)(a:(ok=true->Y2 (Y2 l)=Z5 t)/\(ok=false->∀q,Y2 (Y2 l)≠Z5 q)):
 (ok=true->ig ⟨U3 (Y1 l),U3 (Y1 (Y2 l)),U3 t⟩=true->Tz l ⟨U3 (Y1 l),U3 (Y1 (Y2 l)),U3 t⟩ true)/\(¬(ok=true/\ig ⟨U3 (Y1 l),U3 (Y1 (Y2 l)),U3 t⟩=true)->∀y,ig y=true->l≠je y):=by
 constructor
 ·intro h1 h2;refine⟨λ_=>⟨h2,?_⟩,(λh=>by cases h)⟩;rw[Ed];show l=Y1 l++32::(Y1 (Y2 l)++32::Z5 t);rw[<- a.1 h1,<- (Pn f).1,<- (Pn hm).1]
 intro d y b e;obtain⟨_,e1,g,c⟩:=gy b e;apply d;cases ok
 ·exact absurd c (a.2 rfl _)
 refine⟨rfl,?_⟩;have:t=y.ar.data.toList:=zn ((a.1 rfl).symm.trans c);rw[this,e1,g];exact b
theorem rD{P:Program}{ops:Array Oper}{o:Oper}{a:Act}{K:Act->World->Prop}{Q:Exit->Act->World->Prop}{E:Prop}
 (l:o.guard=none) (s x:Operand) (t u:TypeId) (k:o.op=Op.call { callee:=Callee.builtin Builtin.append,args:=#[s,x],argTypes:=#[t,u] })
 (base:Nat) (e:TypeId) (i:TypeInfo) (h1:P.underlying t=some (.slice e)) (g:P.underlying u=some .string) (h2:P.info? e=some i) (y:i.zero=some (.int .u8 0)) (r:i.size=1) (q:i.bytes=1)
 (v:Value) (n:Nat) (xs:List Value) (hs:a.eval s=v) (j:w.ownsRow base e 1 v n xs) (b:BY) (hx:a.eval x=Sb b)
 (A:n+b.size<=maxLen) (z:n+b.size<=140737488355328) (m:base<=w.heap.size)
 (p:∀v' w',w'.ownsRow base e 1 v' (n+b.size) (xs++Lib.strCells b)->w.grownBy w' v.ownBlock->(v'=Sa none 0 0↔v=Sa none 0 0/\b.size=0)->K (a.put o.dst v') w'):
 if Region.wanted o (yielded ops a.tmps)=true then Oper.wp P o a w K Q else E:=by
 have hw:Region.wanted o (yielded ops a.tmps)=true:=by simp[Region.wanted,l]
 rw[D8 hw];obtain⟨v',w',h,f,d,c⟩:=Lib.run_append_own_string (P:=P) w base t u o.type e i h1 g h2 y r q v n xs j b A z m;unfold Oper.wp;simp[execOp,k,resolve,invoke,builtin,hs,hx,h,Result.andThen];exact p v' w' f d c
theorem JP{base:Nat}{v:Value}{n:Nat}(h:w.ownsRow base 5 1 v n (Lib.byteCells l))(a:v≠Sa none 0 0):(convert 211 9 v).run prog w=.ok (Sb ⟨l.toArray⟩) w:=by
 have d:=h;obtain⟨h1,h2⟩:=h;rcases h2 with⟨h0,_⟩|⟨g,cp,cur,rfl,hg,hh,_⟩
 ·exact absurd h0 a
 have hl:l.length=n:=by rw[Sr]at h1;omega
 have:=run_convert_bytes_arg (P:=prog) w 211 5 underlying211 underlying5 g 0 n cp (l.map λb=>(b.toNat:Int)) (by simpa using hl) (λi hi=>by
  rw[Y8,d.cellAt i O0];have c:i<l.length:=O0;simp[Lib.byteCells,c]) 9 underlying9
 rw[this];have e:l.map ((λn:Int=>UInt8.ofNat n.toNat)∘λb=>(b.toNat:Int))=l:=(ku (λb _=>J4)).trans (yG l);simp only[strOfNums,Gp,e]
theorem Dh{c:Int}(h:vr c l=true):0<=c/\c<=7:=by
 unfold vr at h;by_cases h1:c=0\/c=1
 ·omega
 rw[U7 h1]at h;by_cases h2:c=2
 ·omega
 rw[U7 h2]at h;by_cases b:c=3
 ·omega
 rw[U7 b]at h;by_cases a:c=4\/c=5\/c=7
 ·omega
 rw[U7 a]at h;cases h
theorem Aj{x:L4}(h:Ri x):0<=x.cd/\x.cd<=7:=by
 rcases h.2 with⟨_,⟨h,_⟩|⟨h,_⟩⟩|⟨_,h⟩
 ·omega
 ·omega
 exact Dh h
def Wy(b:Bool):BY:=if b=true then⟨#[104,97,115,32]⟩ else⟨#[97,115,107,32]⟩
def iq(x:L4):List UInt8:=(Wy x.has).data.toList++x.nm.data.toList++[32]++Ec x.cd x.tx++[10]
theorem xC(x:L4):Wy x.has++x.nm++⟨#[32]⟩++U3 (Ec x.cd x.tx)++⟨#[10]⟩=U3 (iq x):=by
 show U3 (Wy x.has).data.toList++U3 x.nm.data.toList++U3 [32]++U3 (Ec x.cd x.tx)++U3 [10]=_;rw[Xc,Xc,Xc,Xc];rfl
theorem qR(c:Int)(t:BY)(h0:0<=c)(h1:c<=1000):(U3 (Ec c t)).size<=100000004+3*t.size:=by
 have a:=oH c h0 O0;have b:=vg t;rw[I5]at a b ⊢;unfold Ec;simp only[Q9,f_,Fb];omega
theorem YN(b:Bool):(Wy b).size=4:=by cases b<;>rfl
def N_(ls:List L4):List UInt8:=ls.flatMap iq
theorem nC(ls:List L4)(k:Nat)(h:k<ls.length):N_ (ls.take (k+1))=N_ (ls.take k)++iq (ls.getD k K_):=by
 unfold N_;have e:ls.take (k+1)=ls.take k++[ls.getD k K_]:=by
  rw[Oq];simp[List.getD,V8 h]
 rw[e,Vo];simp
theorem c203(a:OA)(cap:Nat)(ls:List L4)(w:World)(P:Ig ls)(hs:∀i,(ls.getD i K_).le 1048576)(X:O9 w a ls):
 Calls prog 203 #[Sa a ls.length cap] w λe w'=>e=Sf (Sb (U3 (N_ ls)))/\Bw w w':=by
 obtain⟨J,Q,O,N,L⟩:=info_parts info5;obtain⟨b,off,hc⟩:=uh X;have HC:=U0 hc;have HS:=U0 hs;have HOK:=U0 P;have hl:=P.1
 go_in
 go_wp2;go_loopw[3,4] (λv z wr=>∃k:Nat,k<=ls.length/\z=Sc Se k/\Hid (wr.ownsRow w.heap.size 5 1 v (N_ (ls.take k)).length (Lib.byteCells (N_ (ls.take k))))/\Hid (v≠Sa none 0 0)/\(N_ (ls.take k)).length<=k*110000000/\Below w.heap.size w wr) (λ_ z _=>ls.length-(RowKit.intOf z).toNat);exact⟨0,Nat.zero_le _,rfl,World.ownsRow_lit _ #[] 0 A8 (by unfold maxLen;omega) rfl,(λe=>by cases e),by simp[N_],U6⟩;obtain⟨k,hk,rfl,q,C,hlen,f⟩:=hrel;by_cases s:k<ls.length
 ·obtain⟨ha,d,W⟩:=Ud HC.o s;subst ha;obtain⟨p,n1,n2,n3⟩:=W k s;have g0:=(f.cell (by exact d)).trans p;have g1:=(f.cell (by exact d)).trans n1;have g2:=(f.cell (by exact d)).trans n2;have g3:=(f.cell (by exact d)).trans n3;have h:=P9 d f.size;have r:=HS.o k;have F:=Aj (HOK.o.2 k s);have t:=U0 (nC ls k s);generalize ls.getD k K_=x at*;generalize N_ (ls.take k)=l at*;have hki:(k:Int)<(ls.length:Int):=O0;have zr:=qR x.cd x.tx F.1 O0;have s1:=r.1;have s2:=r.2;have R:Hid ((iq x).length<=110000000):=by
   have:=G7 ByteArray.size (xC x);rw[I5]at this;simp only[OJ]at this;have w4:=YN x.has;have e1:(⟨#[32]⟩:BY).size=1:=rfl;have e2:(⟨#[10]⟩:BY).size=1:=rfl;show(iq x).length<=110000000;omega
  have k1:¬9223372036854775807<4+x.nm.size:=O0;have k2:¬9223372036854775807<4+x.nm.size+1:=O0;have k2':¬9223372036854775807<=4+x.nm.size:=O0;have k3:¬9223372036854775807<4+x.nm.size+1+(U3 (Ec x.cd x.tx)).size:=O0;have k4:¬9223372036854775807<4+x.nm.size+1+(U3 (Ec x.cd x.tx)).size+1:=O0;have k4':¬9223372036854775807<=4+x.nm.size+1+(U3 (Ec x.cd x.tx)).size:=O0;have e32:(⟨#[32]⟩:BY).size=1:=rfl;have e10:(⟨#[10]⟩:BY).size=1:=rfl;have a9l:k<=14:=O0;cases hh:x.has
  ·rw[hh]at g0 p;have I:Hid (Wy x.has=⟨#[97,115,107,32]⟩):=by rw[hh];rfl
   have o:Hid (⟨#[97,115,107,32]⟩++x.nm++⟨#[32]⟩++U3 (Ec x.cd x.tx)++⟨#[10]⟩=U3 (iq x)):=by rw[<- I.o];exact xC x
   have Y:(⟨#[97,115,107,32]⟩:BY).size=4:=rfl
   go_wp2_with fail
   refine wp_region_held_drew (S:=(λu=>u.cell? ⟨b,off+k*4,none⟩=some (.bool false)/\u.cell? ⟨b,off+k*4+1,none⟩=some (vS x.nm)/\u.cell? ⟨b,off+k*4+2,none⟩=some (vI x.cd)/\u.cell? ⟨b,off+k*4+3,none⟩=some (vS x.tx))) Y0 ?_ λhHeld=>?_
   · ((try dsimp only);go_keep)
   iterate 14 refine sq ?_
   refine rq 14 λK n=>?_;go_simp;refine(a1r x.cd x.tx _ F.1 O0 (by have:=r.2;omega)).mono ?_;rintro e y⟨rfl,H⟩;have c:Hid (Bw wr y):=((O4 _ _).drew).trans H;have b0:=(c.o.cell (by exact h)).trans g0;have b1:=(c.o.cell (by exact h)).trans g1;have b2:=(c.o.cell (by exact h)).trans g2;have Z:=(c.o.cell (by exact h)).trans g3
   go_wp2_with fail
   refine n _ _ ?_ λhHeld=>?_
   · ((try dsimp only);go_keep)
   try simp only[qq]
   iterate 2 refine sq ?_
   refine rq 17 λK n=>?_;refine rD rfl (.tmp 18) (.tmp 34) 211 9 rfl w.heap.size 5 J underlying211 underlying9 Q O N L _ _ _ rfl (ownsRow_below q c) _ rfl (by simp only[ByteArray.size_append];unfold maxLen;omega) (by simp only[ByteArray.size_append];omega) (by have h1:=c.o.size;have h2:=f.size;omega) ?_;intro v' U A E B;have g:=(E5 f c).grown E (by have h1:=c.o.size;have h2:=f.size;omega) (λj D=>(q.o.lt j D).1);have m0:=(g.cell (by exact d)).trans p;have m1:=(g.cell (by exact d)).trans n1;have m2:=(g.cell (by exact d)).trans n2;have V:=(g.cell (by exact d)).trans n3;refine n _ _ ?_ λhHeld=>?_
   · ((try dsimp only);go_keep)
   try simp only[qq]
   refine sq ?_;refine wdn ?_;have HF:Hid (ByteArray.size _=_/\_):=⟨G7 ByteArray.size o,o⟩;go_wp2;go_roundw
   ·refine⟨k+1,O0,by go_num,?_,λe=>C.o (B.1 e).1,by rw[t.o,Q9];have:=R.o;omega,g⟩;rw[t.o,Na,Q9];have m:=A;rw[o.o]at m;rw[I5]at m;exact m
   exact V9
  rw[hh]at g0 p;have I:Hid (Wy x.has=⟨#[104,97,115,32]⟩):=by rw[hh];rfl
  have o:Hid (⟨#[104,97,115,32]⟩++x.nm++⟨#[32]⟩++U3 (Ec x.cd x.tx)++⟨#[10]⟩=U3 (iq x)):=by rw[<- I.o];exact xC x
  have Y:(⟨#[104,97,115,32]⟩:BY).size=4:=rfl
  go_wp2_with fail
  refine wp_region_held_drew (S:=(λu=>u.cell? ⟨b,off+k*4,none⟩=some (.bool true)/\u.cell? ⟨b,off+k*4+1,none⟩=some (vS x.nm)/\u.cell? ⟨b,off+k*4+2,none⟩=some (vI x.cd)/\u.cell? ⟨b,off+k*4+3,none⟩=some (vS x.tx))) Y0 ?_ λhHeld=>?_
  · ((try dsimp only);go_keep)
  iterate 14 refine sq ?_
  refine rq 14 λK n=>?_;go_simp;refine(a1r x.cd x.tx _ F.1 O0 (by have:=r.2;omega)).mono ?_;rintro e y⟨rfl,H⟩;have c:Hid (Bw wr y):=((O4 _ _).drew).trans H;have b0:=(c.o.cell (by exact h)).trans g0;have b1:=(c.o.cell (by exact h)).trans g1;have b2:=(c.o.cell (by exact h)).trans g2;have Z:=(c.o.cell (by exact h)).trans g3
  go_wp2_with fail
  refine n _ _ ?_ λhHeld=>?_
  · ((try dsimp only);go_keep)
  try simp only[qq]
  iterate 2 refine sq ?_
  refine rq 17 λK n=>?_;refine rD rfl (.tmp 18) (.tmp 34) 211 9 rfl w.heap.size 5 J underlying211 underlying9 Q O N L _ _ _ rfl (ownsRow_below q c) _ rfl (by simp only[ByteArray.size_append];unfold maxLen;omega) (by simp only[ByteArray.size_append];omega) (by have h1:=c.o.size;have h2:=f.size;omega) ?_;intro v' U A E B;have g:=(E5 f c).grown E (by have h1:=c.o.size;have h2:=f.size;omega) (λj D=>(q.o.lt j D).1);have m0:=(g.cell (by exact d)).trans p;have m1:=(g.cell (by exact d)).trans n1;have m2:=(g.cell (by exact d)).trans n2;have V:=(g.cell (by exact d)).trans n3;refine n _ _ ?_ λhHeld=>?_
  · ((try dsimp only);go_keep)
  try simp only[qq]
  refine sq ?_;refine wdn ?_;have HF:Hid (ByteArray.size _=_/\_):=⟨G7 ByteArray.size o,o⟩;go_wp2;go_roundw
  ·refine⟨k+1,O0,by go_num,?_,λe=>C.o (B.1 e).1,by rw[t.o,Q9];have:=R.o;omega,g⟩;rw[t.o,Na,Q9];have m:=A;rw[o.o]at m;rw[I5]at m;exact m
  exact V9
 have HT:Hid (N_ (ls.take k)=N_ ls):=by rw[p_ O0];rfl
 have hcv:=JP q C;go_wp2;go_ret;exact⟨by rw[<- HT.o];rfl,f⟩
def Unq(q t:List UInt8)(ok:Bool):Prop:=(ok=true->q=Z5 t)/\(ok=false->∀l,q≠Z5 l)
def fO(q:List UInt8)(e:Ending):Prop:=∃t ok,e=Sf (.tuple #[Sb (U3 t),.bool ok])/\Unq q t ok
theorem ext_list(s:BY)(a b:Nat):(s.extract a b).data.toList=(s.data.toList.take b).drop a:=by
 rw[ByteArray.data_extract,Array.toList_extract,dU,qK]
theorem drop_at(s:BY)(k:Nat)(h:k<s.size):s.data.toList.drop k=s[k]::s.data.toList.drop (k+1):=by
 rw[Ky (by simpa using h)];rfl
theorem pV(q:BY)(h2:2<=q.size)(hf:(q[0].toNat:Int)=34)(hl:(q[q.size-1].toNat:Int)=34):q.data.toList=34::((q.extract 1 (q.size-1)).data.toList++[34]):=by
 have e0:q[0]=34:=uj.1 (by
  have:q[0].toNat=34:=O0;rw[this];rfl)
 have e1:q[q.size-1]=34:=uj.1 (by
  have:q[q.size-1].toNat=34:=O0;rw[this];rfl)
 have hlen:q.data.toList.length=q.size:=J4;have c:q.data.toList=q.data.toList.take (q.size-1)++q.data.toList.drop (q.size-1):=(Zk _ _).symm;have b:=drop_at q (q.size-1) O0;rw[e1,Ht (show q.data.toList.length<=q.size-1+1 by omega)]at b;have a:=drop_at q 0 O0;rw[e0]at a;simp only[mF,Y8]at a;rw[ext_list];have t2:q.data.toList.take (q.size-1)=34::(q.data.toList.take (q.size-1)).drop 1:=by
  obtain⟨m,hm⟩:∃m,q.size-1=m+1:=⟨q.size-2,O0⟩;rw[hm]
  conv=>lhs;rw[a]
  rw[a];simp
 rw[<- jd,<- t2,<- b];exact c
theorem Jw(h:q.length<2\/q.headD 0≠34\/q.getLastD 0≠34):∀l,q≠Z5 l:=by
 intro l e;subst e;rcases h with h|h|h
 ·have:=Fp l;omega
 ·exact h rfl
 apply h;show(34::(l.flatMap qb++[34])).getLastD 0=34;rw[<- jd,TJ]
theorem aT(s:BY)(k:Nat)(_:k<=s.size):s.data.toList=s.data.toList.take k++(s.extract k s.size).data.toList:=by
 rw[ext_list,p_ (show s.data.toList.length<=s.size by simp),Zk]
theorem GY(q:BY)(w:World)(hs:q.size<=1048700)(h2:2<=q.size)(hf:(q[0].toNat:Int)=34)(hl:(q[q.size-1].toNat:Int)=34):
 Calls prog 262 #[Sb q] w λe w'=>fO q.data.toList e/\Bw w w':=by
 have J:=U0 (Lib.fresh_isBuilder 401 5 w);have C:=U0 (pV q h2 hf hl);have hz:(q.extract 1 (q.size-1)).size<=1048700:=L8
 go_in
 go_wp2_with fail
 generalize q.extract 1 (q.size-1)=I at*;go_loopw[6] (λi wr=>∃(k:Nat)(t:List UInt8),k<=I.size/\i=Sc Se k/\t.length<=k/\Hid (I.data.toList.take k=t.flatMap qb)/\Hid (Lib.IsBuilder 401 5 w.heap.size w.heap.size (Lib.byteCells t) wr)/\Below w.heap.size w wr/\w.heap.size+1<=wr.heap.size) (λi _=>I.size-(RowKit.intOf i).toNat);exact⟨0,[],Y4 _,rfl,Y7 _,rfl,J,U6,J4⟩;obtain⟨k,t,hk,rfl,htk,f,o,g,y⟩:=hrel;by_cases A:k<I.size
 ·go_wp2_with fail
  refine(a3B I[k] _).mono ?_;rintro e w1⟨rfl,n⟩;obtain rfl:=n.symm;cases hp:U_ I[k]
  ·have H:=U0 hp
   go_wp2_with fail
   refine(a5z _ _ L8).mono ?_;rintro e w1⟨⟨c,ok,rfl,z⟩,n⟩;obtain rfl:=n.symm;have D:Hid (I.data.toList=t.flatMap qb++(I.extract k I.size).data.toList):=by rw[<- f.o];exact aT I k hk
   cases ok
   ·have u:Hid (Unq q.data.toList [] false):=by
     refine⟨(λh=>by cases h),λ_ l e=>?_⟩;rw[C.o]at e;unfold Z5 at e;simp only[Yi,yA,aV]at e;rw[D.o]at e;obtain⟨r,hr,_⟩:=tH e;have a:(I.extract k I.size).data.toList=I[k]::I.data.toList.drop (k+1):=by
      rw[ext_list,p_ J4,drop_at I k A]
     cases r with
     | nil=>rw[hr]at a;cases a
     | cons d r=>
      rw[hr,Xf]at a;cases hd:U_ d
      ·exact z.2 rfl d _ hd hr
      rw[ng hd]at a;simp only[jd,Y9,Yi]at a;rw[a.1,H.o]at hd;cases hd
    go_wp2;go_ret2;exact⟨⟨[],false,rfl,u⟩,g⟩
   have B:=U0 (z.1 rfl);have E:k+3<=I.size:=by
    obtain⟨h1,r,h2⟩:=B.o;have:=G7 List.length h2;rw[Ag h1]at this;simp at this;omega
   have v:Hid (I.data.toList.take (k+3)=(t++[c]).flatMap qb):=by
    obtain⟨h1,r,h2⟩:=B.o;have hl:(t.flatMap qb).length=k:=by rw[<- f.o];simp;omega
    rw[D.o,h2,<- Tt,lJ (by rw[Q9,hl,Ag h1];simp),p_ (by rw[Q9,hl,Ag h1];simp),Vo];simp[Hid]
   go_wp2_with fail
   refine(a3U w.heap.size w.heap.size (Lib.byteCells t) c.toNat _ o (by rw[Sr];omega) O0).mono ?_;rintro e j⟨rfl,s,b⟩;have x:Hid (Lib.IsBuilder 401 5 w.heap.size w.heap.size (Lib.byteCells (t++[c])) j):=by rw[Na];exact s
   have p:=g.trans b;have m:=X7 y b.size;go_wp2;go_roundw;exact⟨k+3,t++[c],E,by go_num,L8,v,x,p,m⟩;exact V9
  have v:Hid (I.data.toList.take (k+1)=(t++[I[k]]).flatMap qb):=by
   rw[take_snoc I k A,f.o,Vo];simp[Hid,ng hp]
  go_wp2_with fail
  refine(a3U w.heap.size w.heap.size (Lib.byteCells t) _ _ o (by rw[Sr];omega) O0).mono ?_;rintro e j⟨rfl,s,b⟩;have x:Hid (Lib.IsBuilder 401 5 w.heap.size w.heap.size (Lib.byteCells (t++[I[k]])) j):=by rw[Na];exact s
  have p:=g.trans b;have m:=X7 y b.size;go_wp2;go_roundw;exact⟨k+1,t++[I[k]],O0,by go_num,L8,v,x,p,m⟩;exact V9
 have u:Hid (Unq q.data.toList t true):=by
  refine⟨λ_=>?_,(λh=>by cases h)⟩;have:=f.o;rw[p_ L8]at this;rw[C.o,this];rfl
 go_wp2_with fail
 refine(Tryz.Builder_String_any w.heap.size w.heap.size t _ o O0).mono ?_;rintro e w4⟨rfl,F⟩;go_wp2;go_ret2;exact⟨⟨t,true,rfl,u⟩,g.trans F⟩
theorem a4l(q:BY)(w:World)(hs:q.size<=1048700):
 Calls prog 262 #[Sb q] w λe w'=>fO q.data.toList e/\Bw w w':=by
 by_cases h2:2<=q.size
 ·have hz0:0<q.size:=O0;have hz1:q.size-1<q.size:=O0;by_cases hf:(q[0].toNat:Int)=34
  ·by_cases hl:(q[q.size-1].toNat:Int)=34
   ·exact GY q w hs h2 hf hl
   have a:Hid (fO q.data.toList (Sf (.tuple #[vE,.bool false]))):=by
    refine⟨[],false,rfl,(λh=>by cases h),λ_=>Jw (.inr (.inr λe=>hl ?_))⟩;have c:=drop_at q (q.size-1) O0;rw[Ht (show q.data.toList.length<=q.size-1+1 by simp;omega)]at c;have:q.data.toList=q.data.toList.take (q.size-1)++[q[q.size-1]]:=by rw[<- c];exact(Zk _ _).symm
    rw[this]at e;simp at e;rw[e];rfl
   have e1:((q[q.size-1].toNat:Int) !=34)=true:=by simpa using hl
   go_in
   go_wp2;go_ret2;exact⟨a,O4 _ _⟩
  have a:Hid (fO q.data.toList (Sf (.tuple #[vE,.bool false]))):=by
   refine⟨[],false,rfl,(λh=>by cases h),λ_=>Jw (.inr (.inl λe=>hf ?_))⟩;have b:=drop_at q 0 O0;simp only[mF]at b;rw[b]at e;simp at e;rw[e];rfl
  have e1:((q[0].toNat:Int) !=34)=true:=by simpa using hf
  go_in
  go_wp2;go_ret2;exact⟨a,O4 _ _⟩
 have a:Hid (fO q.data.toList (Sf (.tuple #[vE,.bool false]))):=⟨[],false,rfl,(λh=>by cases h),λ_=>Jw (.inl L8)⟩
 go_in
 go_wp2;go_ret2;exact⟨a,O4 _ _⟩
theorem a2z(K:Nat)(hK1:1<=K)(hK2:K<=10)(s:BY)(w:World)(hs:s.size<=1048700):
 Calls prog 147 #[Sb s,Sc Se K] w λe w'=>(∃g cp,e=Sf (.tuple #[Sa (some ⟨g,0,none⟩) K cp,Sb (U3 (g_ s.data.toList K))])/\w.heap.size<=g/\Tc w' g (Q_ s.data.toList K))/\Bw w w':=by
 obtain⟨A,F,D,C,B⟩:=info_parts info9;have hlen:s.data.toList.length=s.size:=J4
 go_in
 go_wp2;go_loopw[0,6,7] (λJ v i wr=>∃(m:Nat)(t:ByteArray)(ss:List (List UInt8)),m<=K/\i=Sc Se m/\J=Sb t/\wr.ownsRow w.heap.size 9 1 v m (Ou ss)/\Hid (t=U3 (g_ s.data.toList m)/\ss=Q_ s.data.toList m)/\Below w.heap.size w wr/\w.heap.size+1<=wr.heap.size) (λ_ _ i _=>K-(RowKit.intOf i).toNat);exact⟨0,s,[],Y4 _,rfl,rfl,ax _ #[] 0 A8 (Y4 _) rfl,⟨rfl,rfl⟩,U6,J4⟩;obtain⟨m,t,ss,hm,rfl,rfl,a,hrel,o,hz⟩:=hrel;by_cases hlt:m<K
 ·obtain⟨hT,rfl⟩:=hrel.o;have hts:t.size<=1048700:=by rw[hT,I5];have:=Gj s.data.toList m;omega
  have H:t.data.toList=g_ s.data.toList m:=by rw[hT];simp[U3]
  have p:=U0 H;have a7V:t.data.toList.length=t.size:=J4;clear hT H;clear hrel;go_wp2;go_loop[8] (λn=>∃k:Nat,k<=t.size/\n=Sc Se k/\Hid ((t.data.toList.take k).all (· !=32)=true)) (λn=>t.size-(RowKit.intOf n).toNat);exact⟨0,Y4 _,rfl,rfl⟩;obtain⟨k,hk,rfl,ha⟩:=hrel;by_cases E:k<t.size
  ·have a8F:(k:Int)<(t.size:Int):=O0;by_cases b:t[k]=32
   ·have e1:((t[k].toNat:Int) !=32)=false:=by rw[b];rfl
    obtain⟨d,c⟩:=Ho (l:=t.data.toList) ha.o O0 (.inr (by simp[E];exact b));have y:Hid (t.extract 0 k=U3 (Y1 t.data.toList)):=Uc (by rw[Ac,d];rfl);have z:Hid (t.extract (k+1) t.size=U3 (Y2 t.data.toList)):=Uc (by rw[Ac,c,p_ O0]);clear b d c
    go_wp2_with(at_builtin;refine wpList_append_own _ rfl _ _ 22 rfl w.heap.size 9 A (Sb ⟨#[]⟩) 1 16 underlying22 F D C B rfl U5 _ _ _ rfl (a.alloc _) ⟨wr.heap.size,0,none⟩ 1 1 [_] rfl rfl (cell_one_new _ _ _) (by intro u f;simp at f;subst f;rfl) (by unfold maxLen;omega) O0 L8 ?_;intro v' I q h _)
    go_roundw
    ·have x:=(o.alloc o.size _).grown h L8 (λj r=>(a.lt j r).1);refine⟨m+1,_,Q_ s.data.toList (m+1),O0,by go_num,rfl,?_,⟨by rw[z.o,p.o];rfl,rfl⟩,x,by have:=h.size;simp at this;omega⟩;rw[Gl,Pg,<- p.o,<- y.o];exact q
    exact V9
   have e1:((t[k].toNat:Int) !=32)=true:=by
    simp only[ru];intro e;exact b (uj.1 (by
     have:t[k].toNat=32:=O0;rw[this];rfl))
   have N:Hid ((t.data.toList.take (k+1)).all (· !=32)=true):=by
    rw[take_snoc t k E,jr,ha.o];simp[Hid,b]
   clear b;go_wp2
   go_round
   exact⟨k+1,O0,by go_num,N⟩;exact V9
  obtain⟨d,c⟩:=Ho (l:=t.data.toList) ha.o O0 (.inl O0);have y:Hid (t.extract 0 k=U3 (Y1 t.data.toList)):=Uc (by rw[Ac,d];rfl);have z:Hid (t.extract k t.size=U3 (Y2 t.data.toList)):=Uc (by rw[Ac,c,p_ O0,Ht O0,Ht O0]);clear d c
  go_wp2_with(at_builtin;refine wpList_append_own _ rfl _ _ 22 rfl w.heap.size 9 A (Sb ⟨#[]⟩) 1 16 underlying22 F D C B rfl U5 _ _ _ rfl (a.alloc _) ⟨wr.heap.size,0,none⟩ 1 1 [_] rfl rfl (cell_one_new _ _ _) (by intro u f;simp at f;subst f;rfl) (by unfold maxLen;omega) O0 L8 ?_;intro v' I q h _)
  go_roundw
  ·have x:=(o.alloc o.size _).grown h L8 (λj r=>(a.lt j r).1);refine⟨m+1,_,Q_ s.data.toList (m+1),O0,by go_num,rfl,?_,⟨by rw[z.o,p.o];rfl,rfl⟩,x,by have:=h.size;simp at this;omega⟩;rw[Gl,Pg,<- p.o,<- y.o];exact q
  exact V9
 obtain rfl:m=K:=O0;obtain⟨rfl,rfl⟩:=hrel.o;clear hrel;obtain⟨g,cp,L⟩:=um a O0;subst L;go_wp2;go_ret2;exact⟨⟨g,cp,rfl,(a.lt g rfl).1,Ei a (by simp[Q_])⟩,o⟩
end Go.Proofs.YtdgneicbmalnpaaGreatDoor
namespace Go.Proofs.YtdgneicbmalnpaaGreatDoor.T
open Proofs.Tryz Go.RowKit
theorem ZK(n a b:Int)(w:World):
 Calls prog 60 #[Sc Se n,Sc Se a,Sc Se b] w λe w'=>e=Sf (.bool (decide (a<=n/\n<=b)))/\w'=w:=by
 by_cases h1:a<=n<;>by_cases h2:n<=b
 all_goals
  go_in
  go_wp2
  all_goals go_ret
  all_goals exact⟨by simp[*],rfl⟩
theorem Le{B i j:Nat}(h:i≠j):(⟨B,i,none⟩:Addr)≠⟨B,j,none⟩:=by intro e;injection e with _ e;exact h e
theorem Eo(u:World)(B j:Nat)(a v1 x0 x1:Value)(h0:u.cell? ⟨B,j,none⟩=some x0)(h1:u.cell? ⟨B,j+1,none⟩=some x1):
 ((u.setCell ⟨B,j,none⟩ a).setCell ⟨B,j+1,none⟩ v1).cell? ⟨B,j,none⟩=some a/\((u.setCell ⟨B,j,none⟩ a).setCell ⟨B,j+1,none⟩ v1).cell? ⟨B,j+1,none⟩=some v1:=by
 have a1:(u.setCell ⟨B,j,none⟩ a).cell? ⟨B,j+1,none⟩=some x1:=by rw[Nb _ _ _ _ (Le O0)];exact h1
 refine⟨?_,Jg _ _ _ a1⟩;rw[Nb _ _ _ _ (Le O0)];exact Jg _ _ _ h0
theorem a3k(x:F2)(w:World):
 Calls prog 140 #[.agg #[Sb x.nm,Sb x.tx],.agg #[Sb x.nm,Sb x.tx]] w λe w'=>e=Sf (.bool true)/\Bw w w':=by
 go_in
 go_wp2;go_ret;exact⟨rfl,U6.alloc J4 _⟩
theorem c85(a o:OA)(cap r:Nat)(rs:List F2)(w:World)(hl:rs.length<=1048576)(n:P6 w a rs)(m:P6 w o rs):
 Calls prog 85 #[Sa a rs.length cap,Sa o rs.length r] w λe w'=>e=Sf (.bool true)/\Bw w w':=by
 obtain⟨b,off,hc⟩:=r_ n;have t:=U0 hc;clear hc n;obtain⟨b',off',h⟩:=r_ m;have s:=U0 h;clear h m
 go_in
 go_wp2;go_loopw[5] (λi wr=>∃(k:Nat),k<=rs.length/\i=Sc Se k/\Below w.heap.size w wr) (λi _=>rs.length-(RowKit.intOf i).toNat);exact⟨0,Y4 _,rfl,O4 _ _⟩;obtain⟨k,hk,rfl,c⟩:=hrel;by_cases d:k<rs.length
 ·obtain⟨ha,l,g⟩:=Ud t.o d;obtain⟨q,j,f⟩:=Ud s.o d;subst ha;subst q;have g0:=(c.cell (by exact l)).trans (g k d).1;have g1:=(c.cell (by exact l)).trans (g k d).2;have g0':=(c.cell (by exact j)).trans (f k d).1;have g1':=(c.cell (by exact j)).trans (f k d).2;generalize rs.getD k o9=x at*;clear g f
  go_wp2_with fail
  go_region_with(go_at_call 140;refine(a3k x _).mono ?_;rintro e w1⟨rfl,p⟩)
  all_goals go_wp2
  all_goals go_roundw
  all_goals first
   | exact⟨k+1,O0,by go_num,(c.drew).trans (p.mono c.size)⟩
   | (exact V9)
 go_wp2;go_ret;exact⟨rfl,c⟩
