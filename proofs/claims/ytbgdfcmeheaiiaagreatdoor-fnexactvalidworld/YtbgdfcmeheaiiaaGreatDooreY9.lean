import Derived.Test.YtbgdfcmeheaiiaaGreatDooreQQ
import Derived.Lib.IndexBytes
import Derived.Lib.Split
import Derived.Lib.AppendStr
set_option linter.unusedVariables false
set_option linter.unusedSimpArgs false
set_option maxHeartbeats 8000000
set_option maxRecDepth 100000
namespace Go.Proofs.YtbgdfcmeheaiiaaGreatDoor
open Proofs.Tryz Go.RowKit
variable{a l r:List UInt8}{x y:M3}{w:World}
def d_(l:List UInt8):Nat->List UInt8
 | 0=>l
 | k+1=>Y1 (d_ l k)
def H_(l:List UInt8)(k:Nat):List (List UInt8):=(List.range k).map λj=>O1 (d_ l j)
theorem Yj(l:List UInt8)(k:Nat):H_ l (k+1)=H_ l k++[O1 (d_ l k)]:=by simp[H_,yD]
theorem H8(l:List UInt8):(O1 l).length<=l.length/\(Y1 l).length<=l.length:=by
 unfold O1 Y1;refine⟨(List.takeWhile_sublist _).length_le,?_⟩;have:=(List.dropWhile_sublist (l:=l) (· !=32)).length_le;simp only[Lj];omega
theorem Qi(l:List UInt8)(k:Nat):(d_ l k).length<=l.length:=by
 induction k with
 | zero=>exact J9 _
 | succ k ih=>exact Q8 (H8 _).2 ih
theorem a0G(n:Int)(w:World):
 Calls prog 316 #[.int .i64 n] w λe w'=>e=.returned (.bool (decide (1<=n/\n<=200)))/\w'=w:=by
 by_cases h1:1<=n<;>by_cases h2:n<=200
 all_goals
  go_in
  go_wp2
  all_goals go_ret
  all_goals exact⟨by simp[*],rfl⟩
theorem Wi(n:Int)(h0:0<=n)(h1:n<=1000000):(Y2 (dec n)).size<=100000001:=by rw[Y4];exact qL n h0 O0
theorem Le(s:BY):(Y2 (J5 s.data.toList)).size<=3*s.size+2:=by
 rw[Y4];have:=Tt s.data.toList;have e:s.data.toList.length=s.size:=O4;unfold J5;simp only[x_,L9,ve];omega
def Ob(c:Int)(t:BY):List UInt8:=dec c++[32]++J5 t.data.toList
theorem lW(c:Int)(t:BY):Y2 (dec c)++⟨#[32]⟩++Y2 (J5 t.data.toList)=Y2 (Ob c t):=by
 show Y2 (dec c)++Y2 [32]++Y2 (J5 t.data.toList)=_;rw[U9,U9];rfl
theorem a0E(c:Int)(t:BY)(w:World)(h:0<=c)(hc1:c<=1000)(ht:t.size<=1048600):
 Calls prog 104 #[.agg #[.int .i64 c,.string t]] w λe w'=>e=.returned (.string (Y2 (Ob c t)))/\Bw w w':=by
 have z1:=Wi c h O0;have z2:=Le t;have p:=U0 (lW c t);have k1:¬9223372036854775807<(Y2 (dec c)).size+1:=O0;have k1':¬9223372036854775807<=(Y2 (dec c)).size:=O0;have k2:¬9223372036854775807<(Y2 (dec c)).size+1+(Y2 (J5 t.data.toList)).size:=O0
 go_in
 go_wp2_with fail
 have k:Bw w (w.alloc (.cells #[vI c,vS t] 71)):=P6;have d:w.heap.size<(w.alloc (.cells #[vI c,vS t] 71)).heap.size:=O4;have o:(w.alloc (.cells #[vI c,vS t] 71)).cell? (aW w 0)=some (vI c):=by simp[go_sem]
 have a1:(w.alloc (.cells #[vI c,vS t] 71)).cell? (aW w 1)=some (vS t):=by simp[go_sem]
 generalize (w.alloc (.cells #[vI c,vS t] 71))=V at*;refine wp_region_held_drew (S:=(λu=>u.cell? (aW w 0)=some (vI c)/\u.cell? (aW w 1)=some (vS t))) Y0 ?_ λhHeld=>?_
 · ((try dsimp only);go_keep)
 refine U8 0 ?_;refine U8 1 ?_;refine U8 4 ?_;refine U8 5 ?_;refine rq 2 λK a=>?_;go_simp;refine(c99 (c.toNat+1) c _ h O0 (su _)).mono ?_;rintro e l⟨rfl,j⟩;have b:Hid (Bw V l):=((J4 _ _).drew).trans j;have b0:=(b.out.cell (by exact d)).trans o;have n:=(b.out.cell (by exact d)).trans a1;clear j
 go_wp2_with fail
 clear hHeld;refine rF a λhHeld=>?_;clear a K;refine sq ?_;refine rq 6 λK a=>?_;go_simp;refine(eH t _ O0).mono ?_;rintro e w2⟨rfl,i⟩;have f:=U0 i;have g:=G9 d b.out.size;have d0:=(f.out.cell (by exact g)).trans b0;have d1:=(f.out.cell (by exact g)).trans n;clear i
 go_wp2_with fail
 clear hHeld;refine rF a λhHeld=>?_;clear a K
 iterate 2 refine sq ?_
 refine wdn ?_;have m:=(P5 k b.out).trans (f.out.mono (P5 k b.out).size);clear hHeld;go_wp2;go_ret;exact⟨by rw[<- p.out];rfl,m⟩
theorem Oi(h:(32:UInt8)∉l):O1 l=l/\Y1 l=[]:=by
 have:=Pm (l:=l) (k:=l.length) (by rw[qp,Oo];intro a ha;simp only[Qr];intro e;exact h (e▸ha)) Y8 (.inl rfl);rw[qp,Yq O0]at this;exact this
theorem N7(h:(32:UInt8)∉a):O1 (a++32::r)=a/\Y1 (a++32::r)=r:=by
 have:=Pm (l:=a++32::r) (k:=a.length) (by rw[List.take_left,Oo];intro x ha;simp only[Qr];intro e;exact h (e▸ha)) O4 (.inr O4);rw[List.take_left]at this;refine⟨this.1,this.2.trans ?_⟩;rw[<- mF,List.drop_left];rfl
theorem gm(h:(32:UInt8)∈l):l=O1 l++32::Y1 l/\(32:UInt8)∉O1 l:=by
 obtain⟨a,r,rfl,ha⟩:=TP h;obtain⟨h1,h2⟩:=N7 (r:=r) ha;rw[h1,h2];exact⟨rfl,ha⟩
theorem Gt(l:List UInt8):(Lib.index l [32]=-1/\(32:UInt8)∉l)\/(∃i:Nat,Lib.index l [32]=i/\(32:UInt8)∈l/\l.take i=O1 l/\l.drop (i+1)=Y1 l):=by
 rw[Lib.index_one];have hge:=Lib.indexByte_ge l 32;by_cases h:Lib.indexByte l 32=-1
 ·refine .inl ⟨h,λhm=>?_⟩;obtain⟨k,a,e⟩:=Ce hm;exact Lib.indexByte_none h k (by rw[D9 a,e])
 obtain⟨o,ho⟩:∃o:Nat,Lib.indexByte l 32=o:=⟨(Lib.indexByte l 32).toNat,O0⟩;obtain⟨h1,h2⟩:=Lib.indexByte_some ho;have hl:o<l.length:=by
  rcases P7 o l.length with h|h
  ·exact h
  rw[Mc h]at h1;cases h1
 have hm:=List.mem_of_getElem? h1;have:=Pm (l:=l) (k:=o) (by
  rw[Oo];intro x hx;simp only[Qr];rintro rfl;obtain⟨k,a,e⟩:=Ce hx;rw[L_]at a;rw[fE]at e;exact h2 k O0 (by rw[D9 O0,e])) O0 (.inr (by simp[List.getD,h1]))
 exact .inr ⟨o,ho,hm,this.1.symm,this.2.symm⟩
theorem JI(l:List UInt8):(Lib.cut l [32]).1=O1 l:=by
 unfold Lib.cut;rcases Gt l with⟨h,a⟩|⟨i,h,_,h1,_⟩
 ·rw[h,Y7 O0,(Oi a).1]
 rw[h,D8 O0];exact h1
def Vd(l:List UInt8)(n:Nat):List (List UInt8):=Lib.splitK [32] 0 n l
theorem iJ(l:List UInt8):Vd l 0=[l]:=rfl
theorem Nh(n:Nat)(h:(32:UInt8)∉l):Vd l n=[l]:=by
 cases n with
 | zero=>rfl
 | succ n=>
  unfold Vd Lib.splitK;rcases Gt l with⟨a,_⟩|⟨i,_,hm,_⟩
  ·rw[a];rfl
  exact absurd hm h
theorem Ol(n:Nat)(h:(32:UInt8)∈l):Vd l (n+1)=O1 l::Vd (Y1 l) n:=by
 unfold Vd;rw[Lib.splitK];rcases Gt l with⟨_,a⟩|⟨i,b,_,h1,h2⟩
 ·exact absurd h a
 rw[b,Y7 O4];simp only[KA,Iq,Aj,h1,h2]
theorem JD(l:List UInt8):(Lib.cut l [32]).2.1=Y1 l:=by
 unfold Lib.cut;rcases Gt l with⟨h,a⟩|⟨i,h,_,_,h2⟩
 ·rw[h,Y7 O0,(Oi a).2]
 rw[h,D8 O0];exact h2
theorem NM(l:List UInt8):Vd l (min 3 (l.length+1)-1)=Vd l 2:=by
 rcases P7 l.length 2 with h|h
 ·cases l with
  | nil=>rw[Nh _ O4,Nh _ O4]
  | cons c r=>
   cases r with
   | cons d r=>simp at h;omega
   | nil=>
    by_cases a:(32:UInt8)∈[c]
    ·have e:Y1 [c]=[]:=by
      simp only[jo]at a;subst a;rfl
     have e1:min 3 ([c].length+1)-1=0+1:=rfl;rw[e1,Ol 0 a,Ol 1 a,e,Nh _ O4,Nh _ O4]
    rw[Nh _ a,Nh _ a]
 have:min 3 (l.length+1)=3:=O0;rw[this]
theorem ZJ{b q:List UInt8}(ha:(32:UInt8)∉a)(e:(32:UInt8)∉b)(h:a++32::r=b++32::q):a=b/\r=q:=by
 induction a generalizing b with
 | nil=>
  cases b with
  | nil=>simpa using h
  | cons c b=>simp at h;exact absurd (by rw[h.1];simp) e
 | cons d a ih=>
  cases b with
  | nil=>simp at h;exact absurd (by rw[h.1];simp) ha
  | cons c b=>
   simp only[Ff,qi]at h;obtain⟨h1,h2⟩:=ih (λh=>ha (vg _ h)) (λh=>e (vg _ h)) h.2;exact⟨by rw[h.1,h1],h2⟩
theorem KJ{a b:BY}(h:a.data.toList=b.data.toList):a=b:=mg (Xk.1 h)
theorem N_(h:Y5 l=true):(32:UInt8)∉l/\(10:UInt8)∉l:=by
 simp only[Y5,X_,Oo]at h;constructor
 ·intro hm;have:=h.2 _ hm;revert this;decide
 intro hm;have:=h.2 _ hm;revert this;decide
theorem Ah(h:Xe x=true):Y5 x.nm.data.toList=true/\Y5 x.tl.data.toList=true/\(x.ar.size:Int)<=300:=by
 simp only[Xe,X_,Zc]at h;exact⟨h.1.1,h.1.2,h.2⟩
theorem Nc(x:M3):Ad x=x.nm.data.toList++32::(x.tl.data.toList++32::J5 x.ar.data.toList):=by simp[Ad]
theorem VL(x:M3):Ad x≠[]:=by rw[Nc];simp
theorem tC(hx:Xe x=true)(a:Xe y=true)(h:Ad x=Ad y):x=y:=by
 obtain⟨a1,a2,_⟩:=Ah hx;obtain⟨e,d,_⟩:=Ah a;rw[Nc,Nc]at h;obtain⟨e1,h⟩:=ZJ (N_ a1).1 (N_ e).1 h;obtain⟨c,h⟩:=ZJ (N_ a2).1 (N_ d).1 h;have b:=Yl h;cases x;cases y;simp only[M3.mk.injEq];exact⟨KJ e1,KJ c,KJ b⟩
theorem qG(p:List (List UInt8)×List UInt8)(a:List UInt8)(h:(10:UInt8)∉a):(a++[10]).foldl (cst 10) p=(p.1++[p.2++a],[]):=by
 induction a generalizing p with
 | nil=>simp[cst]
 | cons c a ih=>
  have hc:c≠10:=λe=>h (by rw[e];simp);rw[Ff,Rw,ih _ (λb=>h (vg _ b))];simp[cst,hc]
theorem iD(b:UInt8)(l:List UInt8)(p:List (List UInt8)×List UInt8)(N:Nat)(h1:∀x∈p.1,x.length<=N)(h2:p.2.length+l.length<=N):(∀x∈(l.foldl (cst b) p).1,x.length<=N)/\(l.foldl (cst b) p).2.length<=N:=by
 induction l generalizing p with
 | nil=>exact⟨h1,by simpa using h2⟩
 | cons c l ih=>
  rw[Rw];apply ih
  ·unfold cst;split
   ·intro x hx;rcases Cf.1 hx with h|h
    ·exact h1 x h
    simp at h;subst h;simp at h2;omega
   exact h1
  simp only[x_]at h2;unfold cst;split
  ·simp;omega
  simp;omega
theorem yh(b:UInt8)(l:List UInt8)(k:Nat):((L8 b l).getD k []).length<=l.length:=by
 obtain⟨h1,h2⟩:=iD b l ([],[]) l.length O4 O4;have h:∀x∈L8 b l,x.length<=l.length:=by
  intro x hx;unfold L8 Z7 at hx;rcases Cf.1 hx with h|h
  ·exact h1 x h
  simp at h;subst h;exact h2
 rcases P7 k (L8 b l).length with a|a
 ·rw[List.getD,D9 a];exact h _ (ji a)
 rw[List.getD,Mc a];simp
theorem Sm(b:UInt8)(l:List UInt8):1<=(L8 b l).length/\(L8 b l).length<=l.length+1:=by
 have:=dw b l;unfold L8;rw[L9,Aj];omega
def iy(l:List UInt8)(x:M3)(ok:Bool):Prop:=(ok=true->Xe x=true/\l=Ad x)/\(ok=false->∀y,Xe y=true->l≠Ad y)
theorem zS(h:∀y,Xe y=true->l≠Ad y):iy l x false:=⟨(λh=>by cases h),λ_=>h⟩
theorem jw(c:Xe y=true)(h:l=Ad y):((32:UInt8)∈l/\(32:UInt8)∈Y1 l)/\O1 l=y.nm.data.toList/\O1 (Y1 l)=y.tl.data.toList/\Y1 (Y1 l)=J5 y.ar.data.toList:=by
 obtain⟨h1,h2,_⟩:=Ah c;rw[Nc]at h;have b:=N7 (r:=y.tl.data.toList++32::J5 y.ar.data.toList) (N_ h1).1;have a:=N7 (r:=J5 y.ar.data.toList) (N_ h2).1;rw[h,b.1,b.2,a.1,a.2];exact⟨⟨O4,O4⟩,rfl,rfl,rfl⟩
theorem tH{t:List UInt8}{ok:Bool}(hm:(32:UInt8)∈l)(f:(32:UInt8)∈Y1 l)(a:(ok=true->Y1 (Y1 l)=J5 t)/\(ok=false->∀q,Y1 (Y1 l)≠J5 q)):
 (ok=true->Xe ⟨Y2 (O1 l),Y2 (O1 (Y1 l)),Y2 t⟩=true->iy l ⟨Y2 (O1 l),Y2 (O1 (Y1 l)),Y2 t⟩ true)/\(¬(ok=true/\Xe ⟨Y2 (O1 l),Y2 (O1 (Y1 l)),Y2 t⟩=true)->∀y,Xe y=true->l≠Ad y):=by
 constructor
 ·intro h1 h2;refine⟨λ_=>⟨h2,?_⟩,(λh=>by cases h)⟩;rw[Nc];show l=O1 l++32::(O1 (Y1 l)++32::J5 t);rw[<- a.1 h1,<- (gm f).1,<- (gm hm).1]
 intro d y b e;obtain⟨_,e1,g,c⟩:=jw b e;apply d;cases ok
 ·exact absurd c (a.2 rfl _)
 refine⟨rfl,?_⟩;have:t=y.ar.data.toList:=Yl ((a.1 rfl).symm.trans c);rw[this,e1,g];exact b
theorem lC{P:Program}{ops:Array Oper}{o:Oper}{a:Act}{K:Act->World->Prop}{Q:Exit->Act->World->Prop}{E:Prop}
 (m:o.guard=none) (s x:Operand) (t u:TypeId) (l:o.op=Op.call { callee:=Callee.builtin Builtin.append,args:=#[s,x],argTypes:=#[t,u] })
 (base:Nat) (e:TypeId) (i:TypeInfo) (h1:P.underlying t=some (.slice e)) (g:P.underlying u=some .string) (h2:P.info? e=some i) (z:i.zero=some (.int .u8 0)) (y:i.size=1) (r:i.bytes=1)
 (v:Value) (n:Nat) (xs:List Value) (h:a.eval s=v) (k:w.ownsRow base e 1 v n xs) (b:BY) (hx:a.eval x=.string b)
 (B:n+b.size<=maxLen) (A:n+b.size<=140737488355328) (p:base<=w.heap.size)
 (q:∀v' w',w'.ownsRow base e 1 v' (n+b.size) (xs++Lib.strCells b)->w.grownBy w' v.ownBlock->(v'=.slice none 0 0↔v=.slice none 0 0/\b.size=0)->K (a.put o.dst v') w'):
 if Region.wanted o (yielded ops a.tmps)=true then Oper.wp P o a w K Q else E:=by
 have hw:Region.wanted o (yielded ops a.tmps)=true:=by simp[Region.wanted,m]
 rw[D8 hw];obtain⟨v',w',j,f,d,c⟩:=Lib.run_append_own_string (P:=P) w base t u o.type e i h1 g h2 z y r v n xs k b B A p;unfold Oper.wp;simp[execOp,l,resolve,invoke,builtin,h,hx,j,Result.andThen];exact q v' w' f d c
theorem YN{base:Nat}{v:Value}{n:Nat}(h:w.ownsRow base 5 1 v n (Lib.byteCells l))(a:v≠.slice none 0 0):(convert 258 9 v).run prog w=.ok (.string ⟨l.toArray⟩) w:=by
 have d:=h;obtain⟨h1,h2⟩:=h;rcases h2 with⟨h0,_⟩|⟨g,f,cur,rfl,hg,hh,_⟩
 ·exact absurd h0 a
 have hl:l.length=n:=by rw[zq]at h1;omega
 have:=run_convert_bytes_arg (P:=prog) w 258 5 underlying258 underlying5 g 0 n f (l.map λb=>(b.toNat:Int)) (by simpa using hl) (λi hi=>by
  rw[l7,d.cellAt i O0];have c:i<l.length:=O0;simp[Lib.byteCells,c]) 9 underlying9
 rw[this];have e:l.map ((λn:Int=>UInt8.ofNat n.toNat)∘λb=>(b.toNat:Int))=l:=(Zu (λb _=>O4)).trans (xE l);simp only[strOfNums,Ju,e]
theorem Xg{c:Int}(h:vr c l=true):0<=c/\c<=7:=by
 unfold vr at h;by_cases h1:c=0\/c=1
 ·omega
 rw[Y7 h1]at h;by_cases h2:c=2
 ·omega
 rw[Y7 h2]at h;by_cases b:c=3
 ·omega
 rw[Y7 b]at h;by_cases a:c=4\/c=5\/c=7
 ·omega
 rw[Y7 a]at h;cases h
theorem Bh{x:L4}(h:Oh x):0<=x.cd/\x.cd<=7:=by
 rcases h.2 with⟨_,⟨h,_⟩|⟨h,_⟩⟩|⟨_,h⟩
 ·omega
 ·omega
 exact Xg h
def Zw(b:Bool):BY:=if b=true then⟨#[104,97,115,32]⟩ else⟨#[97,115,107,32]⟩
def qo(x:L4):List UInt8:=(Zw x.has).data.toList++x.nm.data.toList++[32]++Ob x.cd x.tx++[10]
theorem Yt(x:L4):Zw x.has++x.nm++⟨#[32]⟩++Y2 (Ob x.cd x.tx)++⟨#[10]⟩=Y2 (qo x):=by
 show Y2 (Zw x.has).data.toList++Y2 x.nm.data.toList++Y2 [32]++Y2 (Ob x.cd x.tx)++Y2 [10]=_;rw[U9,U9,U9,U9];rfl
theorem yH(c:Int)(t:BY)(h0:0<=c)(h1:c<=1000):(Y2 (Ob c t)).size<=100000004+3*t.size:=by
 have a:=Wi c h0 O0;have b:=Le t;rw[Y4]at a b ⊢;unfold Ob;simp only[L9,x_,ve];omega
theorem zC(b:Bool):(Zw b).size=4:=by cases b<;>rfl
def Y9(ls:List L4):List UInt8:=ls.flatMap qo
theorem Sr(ls:List L4)(k:Nat)(h:k<ls.length):Y9 (ls.take (k+1))=Y9 (ls.take k)++qo (ls.getD k l_):=by
 unfold Y9;have e:ls.take (k+1)=ls.take k++[ls.getD k l_]:=by
  rw[Rq];simp[List.getD,D9 h]
 rw[e,Vq];simp
theorem a1o(a:OA)(cap:Nat)(ls:List L4)(w:World)(P:Ee ls)(Y:∀i,(ls.getD i l_).le 1048576)(hat:X6 w a ls):
 Calls prog 102 #[.slice a ls.length cap] w λe w'=>e=.returned (.string (Y2 (Y9 ls)))/\Bw w w':=by
 obtain⟨J,Q,O,N,L⟩:=info_parts info5;obtain⟨b,off,hc⟩:=Ie hat;have HC:=U0 hc;have HS:=U0 Y;have HOK:=U0 P;have hl:=P.1
 go_in
 go_wp2;go_loopw[3,4] (λv z wr=>∃k:Nat,k<=ls.length/\z=.int .i64 k/\Hid (wr.ownsRow w.heap.size 5 1 v (Y9 (ls.take k)).length (Lib.byteCells (Y9 (ls.take k))))/\Hid (v≠.slice none 0 0)/\(Y9 (ls.take k)).length<=k*110000000/\Below w.heap.size w wr) (λ_ z _=>ls.length-(RowKit.intOf z).toNat);exact⟨0,Nat.zero_le _,rfl,World.ownsRow_lit _ #[] 0 Y8 (by unfold maxLen;omega) rfl,(λe=>by cases e),by simp[Y9],P6⟩;obtain⟨k,hk,rfl,q,C,hlen,f⟩:=hrel;by_cases s:k<ls.length
 ·obtain⟨ha,d,Z⟩:=Zb HC.out s;subst ha;obtain⟨p,n1,n2,n3⟩:=Z k s;have g0:=(f.cell (by exact d)).trans p;have g1:=(f.cell (by exact d)).trans n1;have g2:=(f.cell (by exact d)).trans n2;have g3:=(f.cell (by exact d)).trans n3;have h:=G9 d f.size;have r:=HS.out k;have F:=Bh (HOK.out.2 k s);have t:=U0 (Sr ls k s);generalize ls.getD k l_=x at*;generalize Y9 (ls.take k)=l at*;have hki:(k:Int)<(ls.length:Int):=O0;have zr:=yH x.cd x.tx F.1 O0;have s1:=r.1;have s2:=r.2;have R:Hid ((qo x).length<=110000000):=by
   have:=U6 ByteArray.size (Yt x);rw[Y4]at this;simp only[NE]at this;have w4:=zC x.has;have e1:(⟨#[32]⟩:BY).size=1:=rfl;have e2:(⟨#[10]⟩:BY).size=1:=rfl;show(qo x).length<=110000000;omega
  have k1:¬9223372036854775807<4+x.nm.size:=O0;have k2:¬9223372036854775807<4+x.nm.size+1:=O0;have k2':¬9223372036854775807<=4+x.nm.size:=O0;have k3:¬9223372036854775807<4+x.nm.size+1+(Y2 (Ob x.cd x.tx)).size:=O0;have k4:¬9223372036854775807<4+x.nm.size+1+(Y2 (Ob x.cd x.tx)).size+1:=O0;have k4':¬9223372036854775807<=4+x.nm.size+1+(Y2 (Ob x.cd x.tx)).size:=O0;have e32:(⟨#[32]⟩:BY).size=1:=rfl;have e10:(⟨#[10]⟩:BY).size=1:=rfl;have a7u:k<=14:=O0;cases hh:x.has
  ·rw[hh]at g0 p;have I:Hid (Zw x.has=⟨#[97,115,107,32]⟩):=by rw[hh];rfl
   have o:Hid (⟨#[97,115,107,32]⟩++x.nm++⟨#[32]⟩++Y2 (Ob x.cd x.tx)++⟨#[10]⟩=Y2 (qo x)):=by rw[<- I.out];exact Yt x
   have e4:(⟨#[97,115,107,32]⟩:BY).size=4:=rfl
   go_wp2_with fail
   refine wp_region_held_drew (S:=(λu=>u.cell? ⟨b,off+k*4,none⟩=some (.bool false)/\u.cell? ⟨b,off+k*4+1,none⟩=some (vS x.nm)/\u.cell? ⟨b,off+k*4+2,none⟩=some (vI x.cd)/\u.cell? ⟨b,off+k*4+3,none⟩=some (vS x.tx))) Y0 ?_ λhHeld=>?_
   · ((try dsimp only);go_keep)
   iterate 14 refine sq ?_
   refine rq 14 λK n=>?_;go_simp;refine(a0E x.cd x.tx _ F.1 O0 (by have:=r.2;omega)).mono ?_;rintro e y⟨rfl,H⟩;have c:Hid (Bw wr y):=((J4 _ _).drew).trans H;have b0:=(c.out.cell (by exact h)).trans g0;have b1:=(c.out.cell (by exact h)).trans g1;have b2:=(c.out.cell (by exact h)).trans g2;have b3:=(c.out.cell (by exact h)).trans g3
   go_wp2_with fail
   refine n _ _ ?_ λhHeld=>?_
   · ((try dsimp only);go_keep)
   try simp only[qq]
   iterate 2 refine sq ?_
   refine rq 17 λK n=>?_;refine lC rfl (.tmp 18) (.tmp 34) 258 9 rfl w.heap.size 5 J underlying258 underlying9 Q O N L _ _ _ rfl (ownsRow_below q c) _ rfl (by simp only[ByteArray.size_append];unfold maxLen;omega) (by simp only[ByteArray.size_append];omega) (by have h1:=c.out.size;have h2:=f.size;omega) ?_;intro v' U A E B;have g:=(P5 f c).grown E (by have h1:=c.out.size;have h2:=f.size;omega) (λj D=>(q.out.lt j D).1);have m0:=(g.cell (by exact d)).trans p;have X:=(g.cell (by exact d)).trans n1;have W:=(g.cell (by exact d)).trans n2;have V:=(g.cell (by exact d)).trans n3;refine n _ _ ?_ λhHeld=>?_
   · ((try dsimp only);go_keep)
   try simp only[qq]
   refine sq ?_;refine wdn ?_;have HF:Hid (ByteArray.size _=_/\_):=⟨U6 ByteArray.size o,o⟩;go_wp2;go_roundw
   ·refine⟨k+1,O0,by go_num,?_,λe=>C.out (B.1 e).1,by rw[t.out,L9];have:=R.out;omega,g⟩;rw[t.out,S_,L9];have m:=A;rw[o.out]at m;rw[Y4]at m;exact m
   exact P9
  rw[hh]at g0 p;have I:Hid (Zw x.has=⟨#[104,97,115,32]⟩):=by rw[hh];rfl
  have o:Hid (⟨#[104,97,115,32]⟩++x.nm++⟨#[32]⟩++Y2 (Ob x.cd x.tx)++⟨#[10]⟩=Y2 (qo x)):=by rw[<- I.out];exact Yt x
  have e4:(⟨#[104,97,115,32]⟩:BY).size=4:=rfl
  go_wp2_with fail
  refine wp_region_held_drew (S:=(λu=>u.cell? ⟨b,off+k*4,none⟩=some (.bool true)/\u.cell? ⟨b,off+k*4+1,none⟩=some (vS x.nm)/\u.cell? ⟨b,off+k*4+2,none⟩=some (vI x.cd)/\u.cell? ⟨b,off+k*4+3,none⟩=some (vS x.tx))) Y0 ?_ λhHeld=>?_
  · ((try dsimp only);go_keep)
  iterate 14 refine sq ?_
  refine rq 14 λK n=>?_;go_simp;refine(a0E x.cd x.tx _ F.1 O0 (by have:=r.2;omega)).mono ?_;rintro e y⟨rfl,H⟩;have c:Hid (Bw wr y):=((J4 _ _).drew).trans H;have b0:=(c.out.cell (by exact h)).trans g0;have b1:=(c.out.cell (by exact h)).trans g1;have b2:=(c.out.cell (by exact h)).trans g2;have b3:=(c.out.cell (by exact h)).trans g3
  go_wp2_with fail
  refine n _ _ ?_ λhHeld=>?_
  · ((try dsimp only);go_keep)
  try simp only[qq]
  iterate 2 refine sq ?_
  refine rq 17 λK n=>?_;refine lC rfl (.tmp 18) (.tmp 34) 258 9 rfl w.heap.size 5 J underlying258 underlying9 Q O N L _ _ _ rfl (ownsRow_below q c) _ rfl (by simp only[ByteArray.size_append];unfold maxLen;omega) (by simp only[ByteArray.size_append];omega) (by have h1:=c.out.size;have h2:=f.size;omega) ?_;intro v' U A E B;have g:=(P5 f c).grown E (by have h1:=c.out.size;have h2:=f.size;omega) (λj D=>(q.out.lt j D).1);have m0:=(g.cell (by exact d)).trans p;have X:=(g.cell (by exact d)).trans n1;have W:=(g.cell (by exact d)).trans n2;have V:=(g.cell (by exact d)).trans n3;refine n _ _ ?_ λhHeld=>?_
  · ((try dsimp only);go_keep)
  try simp only[qq]
  refine sq ?_;refine wdn ?_;have HF:Hid (ByteArray.size _=_/\_):=⟨U6 ByteArray.size o,o⟩;go_wp2;go_roundw
  ·refine⟨k+1,O0,by go_num,?_,λe=>C.out (B.1 e).1,by rw[t.out,L9];have:=R.out;omega,g⟩;rw[t.out,S_,L9];have m:=A;rw[o.out]at m;rw[Y4]at m;exact m
  exact P9
 have HT:Hid (Y9 (ls.take k)=Y9 ls):=by rw[p_ O0];rfl
 have hcv:=YN q C;go_wp2;go_ret;exact⟨by rw[<- HT.out];rfl,f⟩
