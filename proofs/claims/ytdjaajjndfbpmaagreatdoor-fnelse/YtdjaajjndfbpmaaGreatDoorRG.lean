import Derived.Test.YtdjaajjndfbpmaaGreatDoorZ15
set_option linter.unusedVariables false
set_option maxHeartbeats 8000000
set_option maxRecDepth 100000
namespace Go.Proofs.YtdjaajjndfbpmaaGreatDoor
open Proofs.Tryz
open Go.RowKit
def YM (q t:List UInt8) (ok:Bool):Prop:=(ok=true->q=V4 t)/\(ok=false->∀ l,q≠V4 l)
def uA (q:List UInt8) (e:Ending):Prop:=∃ t ok,e=.returned (.tuple #[.string (Q3 t),.bool ok])/\YM q t ok
theorem ext_list (s:ByteArray) (a b:Nat):(s.extract a b).data.toList=(s.data.toList.take b).drop a:=by
 rw [Vz,TA,Oz,Cr]
theorem drop_at (s:ByteArray) (k:Nat) (h:k<s.size):s.data.toList.drop k=s[k]::s.data.toList.drop (k+1):=by
 rw [Vs (by simpa using h)];rfl
theorem mH (q:ByteArray) (h2:2<=q.size) (hf:(q[0].toNat:Int)=34) (hl:(q[q.size - 1].toNat:Int)=34):q.data.toList=34::((q.extract 1 (q.size - 1)).data.toList++[34]):=by
 have f:q[0]=34:=Hg.1 (by have:q[0].toNat=34:=O0;rw [this];rfl);have e:q[q.size - 1]=34:=Hg.1 (by have:q[q.size - 1].toNat=34:=O0;rw [this];rfl);have hlen:q.data.toList.length=q.size:=X0;have t1:q.data.toList=q.data.toList.take (q.size - 1)++q.data.toList.drop (q.size - 1):=(Io _ _).symm;have b:=drop_at q (q.size - 1) O0;rw [e,Wj (show q.data.toList.length<=q.size - 1+1 by omega)] at b;have a:=drop_at q 0 O0;rw [f] at a;simp only [pz,R7] at a;rw [ext_list];have c:q.data.toList.take (q.size - 1)=34::(q.data.toList.take (q.size - 1)).drop 1:=by
  obtain ⟨m,d⟩:∃ m,q.size - 1=m+1:=⟨q.size - 2,O0⟩;rw [d]
  conv=>lhs;rw [a]
  rw [a];simp
 rw [<- Bc,<- c,<- b];exact t1
theorem Vn {q:List UInt8} (h:q.length<2\/q.headD 0≠34\/q.getLastD 0≠34):∀ l,q≠V4 l:=by
 intro l e;subst e;rcases h with h | h | h
 · have:=zm l;omega
 · exact h rfl
 apply h;show (34::(l.flatMap qb++[34])).getLastD 0=34;rw [<- Bc,List.getLastD_concat]
theorem dH (s:ByteArray) (k:Nat) (_:k<=s.size):s.data.toList=s.data.toList.take k++(s.extract k s.size).data.toList:=by
 rw [ext_list,E_ (show s.data.toList.length<=s.size by simp),Io]
theorem gJ (q:ByteArray) (w:World) (hs:q.size<=1048700) (h2:2<=q.size) (C:(q[0].toNat:Int)=34) (f:(q[q.size - 1].toNat:Int)=34):
 Calls prog 156 #[.string q] w fun e w'=>uA q.data.toList e/\Below w.heap.size w w':=by
 have N:=Q0 (Lib.fresh_isBuilder 223 5 w);have E:=Q0 (mH q h2 C f);have hz:(q.extract 1 (q.size - 1)).size<=1048700:=J4;go_enter func156,ntmps156
 go_wp2_with fail
 clear C f;generalize q.extract 1 (q.size - 1)=I at*;go_loopw [6] (fun i wr=>∃ (k:Nat) (t:List UInt8),k<=I.size/\i=.int .i64 k/\t.length<=k/\Hid (I.data.toList.take k=t.flatMap qb)/\Hid (Lib.IsBuilder 223 5 w.heap.size w.heap.size (Lib.byteCells t) wr)/\Below w.heap.size w wr/\w.heap.size+1<=wr.heap.size) (fun i _=>I.size - (intOf i).toNat)
 case atStart=>exact ⟨0,[],I5 _,rfl,Q6 _,rfl,N,bA,X0⟩
 obtain ⟨k,t,J,rfl,htk,j,u,m,A⟩:=hrel;by_cases B:k<I.size;rotate_left
 · have x:Hid (YM q.data.toList t true):=by
    refine ⟨fun _=>?_,(fun h=>by cases h)⟩;have:=j.out;rw [E_ J4] at this;rw [E.out,this];rfl
   go_wp2_with fail
   refine (Tryz.Builder_String_any w.heap.size w.heap.size t _ u.out O0).mono ?_;rintro e w4 ⟨rfl,K⟩;go_wp2;go_ret2;exact ⟨⟨t,true,rfl,x.out⟩,m.trans K⟩
 go_wp2_with fail
 refine (RN I[k] _).mono ?_;rintro e w1 ⟨rfl,p⟩;obtain rfl:=p.symm;cases hp:A9 I[k]
 · have L:=Q0 hp
   clear hp
   go_wp2_with fail
   refine (UO _ _ J4).mono ?_;rintro e w1 ⟨⟨c,ok,rfl,g⟩,p⟩;obtain rfl:=p.symm;have F:Hid (I.data.toList=t.flatMap qb++(I.extract k I.size).data.toList):=by rw [<- j.out];exact dH I k J
   cases ok
   · have x:Hid (YM q.data.toList [] false):=by
      refine ⟨(fun h=>by cases h),fun _ l e=>?_⟩;rw [E.out] at e;unfold V4 at e;simp only [Ye,Dh,rF] at e;rw [F.out] at e;obtain ⟨r,s,_⟩:=Zx e;have b:(I.extract k I.size).data.toList=I[k]::I.data.toList.drop (k+1):=by
       rw [ext_list,E_ X0,drop_at I k B]
      cases r with
      | nil=>rw [s] at b;cases b
      | cons d r=>
       rw [s,Qe] at b;cases hd:A9 d
       · exact g.2 rfl d _ hd s
       rw [Ib hd] at b;simp only [Bc,Ba,Ye] at b;rw [b.1,L.out] at hd;cases hd
     clear g;go_wp2;go_ret2;exact ⟨⟨[],false,rfl,x.out⟩,m⟩
   have D:=Q0 (g.1 rfl);clear g;have H:k+3<=I.size:=by
    obtain ⟨h1,r,h2⟩:=D.out;have:=V3 List.length h2;rw [Yb h1] at this;simp at this;omega
   have y:Hid (I.data.toList.take (k+3)=(t++[c]).flatMap qb):=by
    obtain ⟨h1,r,h2⟩:=D.out;have f:(t.flatMap qb).length=k:=by rw [<- j.out];simp;omega
    rw [F.out,h2,<- y_,Sz (by rw [Q7,f,Yb h1];simp),E_ (by rw [Q7,f,Yb h1];simp),Uq];simp [Hid]
   go_wp2_with fail
   refine (c171 w.heap.size w.heap.size (Lib.byteCells t) c.toNat _ u.out (by rw [Vm];omega) O0).mono ?_;rintro e n ⟨rfl,h3,a⟩;have z:Hid (Lib.IsBuilder 223 5 w.heap.size w.heap.size (Lib.byteCells (t++[c])) n):=by rw [t_];exact h3
   have v:=m.trans a;have o:=Z4 A a.size;clear h3 a;go_wp2;go_roundw
   case rel=>exact ⟨k+3,t++[c],H,by go_num,J4,y,z,v,o⟩
   case measure=>simp [intOf];omega
 have y:Hid (I.data.toList.take (k+1)=(t++[I[k]]).flatMap qb):=by
  rw [d_ I k B,j.out,Uq];simp [Hid,Ib hp]
 clear hp
 go_wp2_with fail
 refine (c171 w.heap.size w.heap.size (Lib.byteCells t) _ _ u.out (by rw [Vm];omega) O0).mono ?_;rintro e n ⟨rfl,h3,a⟩;have z:Hid (Lib.IsBuilder 223 5 w.heap.size w.heap.size (Lib.byteCells (t++[I[k]])) n):=by rw [t_];exact h3
 have v:=m.trans a;have o:=Z4 A a.size;clear h3 a;go_wp2;go_roundw
 case rel=>exact ⟨k+1,t++[I[k]],O0,by go_num,J4,y,z,v,o⟩
 case measure=>simp [intOf];omega
theorem c156 (q:ByteArray) (w:World) (g:q.size<=1048700):
 Calls prog 156 #[.string q] w fun e w'=>uA q.data.toList e/\Below w.heap.size w w':=by
 by_cases h2:2<=q.size;rotate_left
 · have a:Hid (uA q.data.toList (.returned (.tuple #[.string ⟨#[]⟩,.bool false]))):=⟨[],false,rfl,(fun h=>by cases h),fun _=>Vn (.inl J4)⟩
   go_enter func156,ntmps156;go_wp2;go_ret2;exact ⟨a.out,F4 _ _⟩
 have hz0:0<q.size:=O0;have hz1:q.size - 1<q.size:=O0;by_cases c:(q[0].toNat:Int)=34
 · by_cases b:(q[q.size - 1].toNat:Int)=34
   · exact gJ q w g h2 c b
   have a:Hid (uA q.data.toList (.returned (.tuple #[.string ⟨#[]⟩,.bool false]))):=by
    refine ⟨[],false,rfl,(fun h=>by cases h),fun _=>Vn (.inr (.inr fun e=>b ?_))⟩;have f:=drop_at q (q.size - 1) O0;rw [Wj (show q.data.toList.length<=q.size - 1+1 by simp;omega)] at f;have:q.data.toList=q.data.toList.take (q.size - 1)++[q[q.size - 1]]:=by rw [<- f];exact (Io _ _).symm
    rw [this] at e;simp at e;rw [e];rfl
   have i:((q[q.size - 1].toNat:Int) !=34)=true:=by simpa using b
   clear b;go_enter func156,ntmps156;go_wp2;go_ret2;exact ⟨a.out,F4 _ _⟩
 have a:Hid (uA q.data.toList (.returned (.tuple #[.string ⟨#[]⟩,.bool false]))):=by
  refine ⟨[],false,rfl,(fun h=>by cases h),fun _=>Vn (.inr (.inl fun e=>c ?_))⟩;have d:=drop_at q 0 O0;simp only [pz] at d;rw [d] at e;simp at e;rw [e];rfl
 have i:((q[0].toNat:Int) !=34)=true:=by simpa using c
 clear c;go_enter func156,ntmps156;go_wp2;go_ret2;exact ⟨a.out,F4 _ _⟩
def nO (l:List UInt8) (op:Nat) (ok:Bool):Prop:=(ok=true->1<=op/\op<=11/\word op=l)/\(ok=false->∀ o:Nat,1<=o->o<=11->word o≠l)
def NL (l:List UInt8) (e:Ending):Prop:=∃ (op:Nat) (ok:Bool),e=.returned (.tuple #[.int .i64 op,.bool ok])/\nO l op ok
theorem c167 (l:List UInt8) (w:World) (b:A7 w):
 Calls prog 167 #[.string (Q3 l)] w fun e w'=>NL l e/\w'=w:=by
 have m:=Q0 b;clear b;go_enter func167,ntmps167
 go_wp2_with fail
 go_loop [4] (fun i=>∃ k:Nat,1<=k/\k<=12/\i=.int .i64 k/\Hid (∀ o:Nat,1<=o->o<k->word o≠l)) (fun i=>12 - (intOf i).toNat)
 case atStart=>exact ⟨1,O0,O0,rfl,fun o h1 h2=>O0⟩
 obtain ⟨k,f,hk2,rfl,c⟩:=hrel;by_cases d:k<=11;rotate_left
 · have a:Hid (NL l (.returned (.tuple #[.int .i64 0,.bool false]))):=⟨0,false,rfl,(fun h=>by cases h),fun _ o h1 h2=>c.out o h1 O0⟩
   go_wp2;go_ret2;exact ⟨a.out,rfl⟩
 obtain ⟨a0,_,_⟩:=m.out k f d;by_cases hw:word k=l
 · have a:Hid (NL l (.returned (.tuple #[.int .i64 k,.bool true]))):=⟨k,true,rfl,fun _=>⟨f,d,hw⟩,(fun h=>by cases h)⟩
   have j:((Gc k).toList==(Q3 l).toList)=true:=by rw [Ya,hw];simp
   clear hw;go_wp2;go_ret2;exact ⟨a.out,rfl⟩
 have j:((Gc k).toList==(Q3 l).toList)=false:=by
  rw [Ya,I7,I7];simpa [Q3] using hw
 have g:Hid (∀ o:Nat,1<=o->o<k+1->word o≠l):=fun o h1 h2=>by
  by_cases e:o=k
  · subst e;exact hw
  exact c.out o h1 O0
 clear hw;go_wp2
 go_round
 case rel=>exact ⟨k+1,O0,O0,by go_num,g⟩
 case measure=>simp [intOf];omega
theorem lF (s:ByteArray) (w:World) (hs:s.size<=1048700) (a:Z9 w):
 Calls prog 128 #[.string s,.string ⟨#[32]⟩] w fun e w'=>(∃ x y,e=.returned (.tuple #[.string (Q3 (O1 s.data.toList)),.string x,.bool y]))/\Below w.heap.size w w':=by
 obtain ⟨_,m,a⟩:=a;refine (Tryz.strings_Cut s ⟨#[32]⟩ m w O0 a).mono ?_;rintro e w' ⟨rfl,n,rfl⟩;refine ⟨⟨⟨(Lib.cut s.data.toList [32]).2.1.toArray⟩,(Lib.cut s.data.toList [32]).2.2,?_⟩,below_drewN n⟩;have:Q3 (O1 s.data.toList)=⟨(Lib.cut s.data.toList [32]).1.toArray⟩:=by rw [QG];rfl
 rw [this]
theorem Xt (s:ByteArray) (n:Nat) (w:World) (hs:s.size<=1048700) (d:1<=n) (hn2:n<=s.size+1) (a:Z9 w):
 Calls prog 155 #[.string s,.string ⟨#[32]⟩,.int .i64 n] w fun e w'=>(e=.returned (.slice (some ⟨w.heap.size,0,none⟩) (U6 s.data.toList (n - 1)).length n)/\K7 w' w.heap.size (U6 s.data.toList (n - 1)))/\Below w.heap.size w w':=by
 obtain ⟨_,m,a⟩:=a;refine (Tryz.strings_SplitN s ⟨#[32]⟩ n m w O0 a K3 d O0).mono ?_;have f:min n (s.size+1)=n:=O0;rw [f];have c:Lib.splitB ⟨#[32]⟩ 0 (n - 1) s=(U6 s.data.toList (n - 1)).map Q3:=Zu (qz ⟨#[32]⟩ 0 (n - 1) s);have hlen:(U6 s.data.toList (n - 1)).length<=n:=by
  have:=Lib.splitB_length_le ⟨#[32]⟩ 0 (n - 1) s;rw [c,qc] at this;omega
 rintro e w' ⟨rfl,rfl⟩;rw [c];refine ⟨⟨by rw [qc],X0,fun i b=>?_⟩,bA⟩;have g:(Lib.cellsOf ((U6 s.data.toList (n - 1)).map Q3) n)[i]?=some (.string (Q3 ((U6 s.data.toList (n - 1)).getD i []))):=by
  unfold Lib.cellsOf;rw [List.getElem?_toArray,Eb (by simpa using b)];simp [b]
 rw [<- g];simp
theorem vD:∀ i:Fin 12,1<=i.val->2<=(word ((i.val:Nat):Int)).length:=K3
theorem fH (op:Nat) (h1:1<=op) (h2:op<=11):2<=(word op).length:=vD ⟨op,O0⟩ h1
def Hm (l:List UInt8) (e:Ending):Prop:=∃ (x:I3) (ok:Bool),e=.returned (.tuple #[.agg #[.int .i64 x.op,.string x.tx,.int .i64 x.to],.bool ok])/\Pk l x ok
theorem rz {w u:World} (a:Below (w.heap.size+1) (w.alloc (.cells #[.int .i64 0,.string ⟨#[]⟩,.int .i64 0] 165)) u):
 (u.cell? ⟨w.heap.size,0,none⟩=some (.int .i64 0)/\u.cell? ⟨w.heap.size,1,none⟩=some (.string ⟨#[]⟩)/\u.cell? ⟨w.heap.size,2,none⟩=some (.int .i64 0))/\u.frozen? ⟨w.heap.size,0,none⟩=false/\u.frozen? ⟨w.heap.size,1,none⟩=false/\u.frozen? ⟨w.heap.size,2,none⟩=false:=by
 have c:∀ j,u.cell? ⟨w.heap.size,j,none⟩=(w.alloc (.cells #[.int .i64 0,.string ⟨#[]⟩,.int .i64 0] 165)).cell? ⟨w.heap.size,j,none⟩:=fun j=>a.cell X0;have f:∀ j,u.frozen? ⟨w.heap.size,j,none⟩=(w.alloc (.cells #[.int .i64 0,.string ⟨#[]⟩,.int .i64 0] 165)).frozen? ⟨w.heap.size,j,none⟩:=fun j=>a.frozen X0;rw [c,c,c,f,f,f];simp
theorem wh {w:World} {p q:Addr} {x:Value} (a:q.block≠p.block) (h:w.cell? p=some x) (v:Value):(w.setCell q v).cell? p=some x:=by
 rw [O_ _ _ _ _ (fun e=>a (by rw [e]))];exact h
theorem QJ (l:List UInt8) (w:World) (a:l.length<=1048700):Calls prog 163 #[.string (Q3 l),.int .i64 40] w fun e w'=>e=.returned (.tuple #[.int .i64 (zg l),.bool (Q8 l)])/\w'=w:=WN (Q3 l) w (by rw [J3];exact a)
theorem XB (l:List UInt8) (w:World) (a:l.length<=1048700):Calls prog 156 #[.string (Q3 l)] w fun e w'=>uA l e/\Below w.heap.size w w':=c156 (Q3 l) w (by rw [J3];exact a)
theorem c146 (s:ByteArray) (w:World) (hs:s.size<=300) (hsh:A7 w) (hmx:Z9 w):
 Calls prog 146 #[.string s] w fun e w'=>Hm s.data.toList e/\Below w.heap.size w w':=by
 have DV:=Q0 hsh;have FV:=Q0 hmx;clear hsh hmx;have hlen:s.data.toList.length=s.size:=X0;have hB0:Below w.heap.size w (w.alloc (.cells #[.int .i64 0,.string ⟨#[]⟩,.int .i64 0] 165)):=bA;go_enter func146,ntmps146
 go_wp2_with fail
 refine (lF s _ O0 (f_ FV.out hB0)).mono ?_;rintro e w1 ⟨⟨cx,cy,rfl⟩,hb1⟩;have hx1:Below (w.heap.size+1) (w.alloc (.cells #[.int .i64 0,.string ⟨#[]⟩,.int .i64 0] 165)) w1:=by simpa using hb1
 have U:=hB0.trans (hx1.mono O0);clear hb1
 go_wp2_with fail
 refine (c167 _ _ (o9 DV.out U)).mono ?_;rintro e w2 ⟨⟨op,ok,rfl,hop⟩,hw2⟩;obtain rfl:=hw2.symm;cases ok
 · have i:Hid (Hm s.data.toList (.returned (.tuple #[.agg #[.int .i64 0,.string ⟨#[]⟩,.int .i64 0],.bool false]))):=⟨⟨0,⟨#[]⟩,0⟩,false,rfl,Md _ _ (Qt (hop.2 rfl))⟩
   clear hop;obtain ⟨⟨m,l,j⟩,A,z,y⟩:=rz hx1;go_wp2;refine K4 (v:=.tuple #[.agg #[.int .i64 0,.string ⟨#[]⟩,.int .i64 0],.bool false]) (by simp [results,results146,go_sem,m,l,j]) rfl ⟨i.out,((U.setCell X0 _).setCell X0 _).setCell X0 _⟩
 obtain ⟨S,R,V⟩:=hop.1 rfl;clear hop;obtain ⟨a0,b0,c0⟩:=o9 DV.out U op S R;have hsz2:2<=s.size:=by
  have h1:=fH op S R;rw [V] at h1;have h2:(O1 s.data.toList).length<=s.data.toList.length:=(Az _).length_le;omega
 have hA3:∀ o,Below (w.heap.size+1) (w.alloc (.cells #[.int .i64 0,.string ⟨#[]⟩,.int .i64 0] 165)) (w1.alloc o):=fun o=>hx1.alloc (by have:=hx1.size;simp at this;omega) _;have hz1:w.heap.size+1<=w1.heap.size:=by have:=hx1.size;simp at this;omega
 cases hO:Z7 op <;> cases hX:M8 op
 · have HB:=ND S R V hO hX
   rw [hO] at b0;rw [hX] at c0
   go_wp2_with fail
   refine (Xt s 1 _ O0 O0 O0 (f_ FV.out (U.alloc U.size _))).mono ?_;rintro e a ⟨⟨rfl,x⟩,n⟩;have P:=(hA3 (.cells #[.string (Gc op),.bool false,.bool false] 261)).trans (n.mono J4);have r:=hB0.trans (P.mono O0);have ES:w1.heap.size+2<=a.heap.size:=by have:=x.1;simp at this;omega
   have H:a.cell? ⟨w1.heap.size,1,none⟩=some (.bool false):=(n.cell (p:=⟨w1.heap.size,1,none⟩) X0).trans (by simp [go_sem]);have E:a.cell? ⟨w1.heap.size,2,none⟩=some (.bool false):=(n.cell (p:=⟨w1.heap.size,2,none⟩) X0).trans (by simp [go_sem]);have s1':=past (by show w1.heap.size<a.heap.size;omega) H;have s2':=past (by show w1.heap.size<a.heap.size;omega) E;obtain ⟨⟨m,l,j⟩,A,z,y⟩:=rz P;have b:w.heap.size<a.heap.size:=O0;have UZ:=past (by exact b) m;have z1':=past (by exact b) l;have z2':=past (by exact b) j;have y0':=Mc (by exact b) A;have y1':=Mc (by exact b) z;have y2':=Mc (by exact b) y;have D:Hid (K7 a (w1.heap.size+1) (U6 s.data.toList (1 - 1))):=by have h:=x;simp at h;exact h
   clear x n;have p0:a.cell? ⟨w1.heap.size+1,0,none⟩=some (.string (Q3 s.data.toList)):=by have:=D.out.2 0 (by simp [Ld]);simpa [Ld] using this
   have u:(U6 s.data.toList (1 - 1)).length=1:=rfl;rw [u];by_cases hw:s.data.toList=O1 s.data.toList
   · have i:Hid (Hm s.data.toList (.returned (.tuple #[.agg #[.int .i64 op,.string ⟨#[]⟩,.int .i64 0],.bool true]))):=⟨⟨op,⟨#[]⟩,0⟩,true,rfl,HB.1 hw⟩
     have e1:((Q3 s.data.toList).toList==(Q3 (O1 s.data.toList)).toList)=true:=by rw [<- hw];simp
     clear hw HB hO hX;go_wp2;have F:=Pb a w.heap.size 0 (.int .i64 op) (.string ⟨#[]⟩) (.int .i64 0) _ _ _ m l j;simp only [R7] at F;have G0:=past (p:=⟨w.heap.size,0,none⟩) (by simpa using b) F.1;have G1:=past (p:=⟨w.heap.size,1,none⟩) (by simpa using b) F.2.1;have G2:=past (p:=⟨w.heap.size,2,none⟩) (by simpa using b) F.2.2;refine K4 (v:=.tuple #[.agg #[.int .i64 op,.string ⟨#[]⟩,.int .i64 0],.bool true]) (by simp [results,results146,go_sem,G0,G1,G2]) rfl ⟨i.out,(((r.setCell X0 _).setCell X0 _).setCell X0 _).alloc (by simpa using r.size) _⟩
   have i:Hid (Hm s.data.toList (.returned (.tuple #[.agg #[.int .i64 0,.string ⟨#[]⟩,.int .i64 0],.bool false]))):=⟨⟨0,⟨#[]⟩,0⟩,false,rfl,Md _ _ (HB.2 hw)⟩;have e1:((Q3 s.data.toList).toList==(Q3 (O1 s.data.toList)).toList)=false:=by
    rw [I7,I7];simpa [Q3] using hw
   clear hw HB hO hX;go_wp2;refine K4 (v:=.tuple #[.agg #[.int .i64 0,.string ⟨#[]⟩,.int .i64 0],.bool false]) (by simp [results,results146,go_sem,m,l,j]) rfl ⟨i.out,((r.setCell X0 _).setCell X0 _).setCell X0 _⟩
 · have K:=bD S R V hO hX
   have L:=xq S R V (.inr hX);rw [hO] at b0;rw [hX] at c0
   go_wp2_with fail
   refine (Xt s 2 _ O0 O0 O0 (f_ FV.out (U.alloc U.size _))).mono ?_;rintro e a ⟨⟨rfl,x⟩,n⟩;have P:=(hA3 (.cells #[.string (Gc op),.bool false,.bool true] 261)).trans (n.mono J4);have r:=hB0.trans (P.mono O0);have ES:w1.heap.size+2<=a.heap.size:=by have:=x.1;simp at this;omega
   have H:a.cell? ⟨w1.heap.size,1,none⟩=some (.bool false):=(n.cell (p:=⟨w1.heap.size,1,none⟩) X0).trans (by simp [go_sem]);have E:a.cell? ⟨w1.heap.size,2,none⟩=some (.bool true):=(n.cell (p:=⟨w1.heap.size,2,none⟩) X0).trans (by simp [go_sem]);have s1':=past (by show w1.heap.size<a.heap.size;omega) H;have s2':=past (by show w1.heap.size<a.heap.size;omega) E;obtain ⟨⟨m,l,j⟩,A,z,y⟩:=rz P;have b:w.heap.size<a.heap.size:=O0;have UZ:=past (by exact b) m;have z1':=past (by exact b) l;have z2':=past (by exact b) j;have y0':=Mc (by exact b) A;have y1':=Mc (by exact b) z;have y2':=Mc (by exact b) y;have D:Hid (K7 a (w1.heap.size+1) (U6 s.data.toList (2 - 1))):=by have h:=x;simp at h;exact h
   clear x n;by_cases f:(32:UInt8)∈s.data.toList;rotate_left
   · have I:U6 s.data.toList (2 - 1)=[s.data.toList]:=R_ _ f
     rw [I];have u:([s.data.toList]:List (List UInt8)).length=1:=rfl;rw [u];have i:Hid (Hm s.data.toList (.returned (.tuple #[.agg #[.int .i64 0,.string ⟨#[]⟩,.int .i64 0],.bool false]))):=⟨⟨0,⟨#[]⟩,0⟩,false,rfl,Md _ _ (L f)⟩;clear K L hO hX f;go_wp2;refine K4 (v:=.tuple #[.agg #[.int .i64 0,.string ⟨#[]⟩,.int .i64 0],.bool false]) (by simp [results,results146,go_sem,m,l,j]) rfl ⟨i.out,((r.setCell X0 _).setCell X0 _).setCell X0 _⟩
   have I:U6 s.data.toList (2 - 1)=[O1 s.data.toList,I1 s.data.toList]:=by show U6 s.data.toList (0+1)=_;rw [T_ 0 f,Ld]
   rw [I] at D ⊢;have p0:a.cell? ⟨w1.heap.size+1,0,none⟩=some (.string (Q3 (O1 s.data.toList))):=D.out.2 0 X0;have X:a.cell? ⟨w1.heap.size+1,1,none⟩=some (.string (Q3 (I1 s.data.toList))):=D.out.2 1 X0;have p1':=past (by show w1.heap.size+1<a.heap.size;omega) X;have u:([O1 s.data.toList,I1 s.data.toList]:List (List UInt8)).length=2:=rfl;rw [u];have HY:Hid (∀ t ok,YM (I1 s.data.toList) t ok->Pk s.data.toList ⟨op,Q3 t,0⟩ ok):=fun t ok hu=>K f O0 hu;have hrz:(Q3 (I1 s.data.toList)).size<=300:=by
    rw [J3];have:=V3 List.length (Y9 f).1;rw [Q7,u_] at this;omega
   clear K L hO hX f
   go_wp2_with fail
   refine (XB _ _ (by rw [J3] at hrz;omega)).mono ?_;rintro e c ⟨⟨t,ok,rfl,hun⟩,a0w⟩;have d:Below (a.heap.size+1) (a.alloc (.cells #[.int .i64 op,.string ⟨#[]⟩,.int .i64 0] 165)) c:=by have h:=a0w;simp at h;exact h
   clear a0w;have g:∀ p:Addr,p.block<a.heap.size->c.cell? p=a.cell? p:=fun p Q=>(d.cell O0).trans (((F4 a.heap.size a).alloc P9 _).cell Q);have C:∀ p:Addr,p.block<a.heap.size->c.frozen? p=a.frozen? p:=fun p Q=>(d.frozen O0).trans (((F4 a.heap.size a).alloc P9 _).frozen Q);have t1:=(g _ (by show w1.heap.size<a.heap.size;omega)).trans H;have t2:=(g _ (by show w1.heap.size<a.heap.size;omega)).trans E;have x0:=(g _ b).trans m;have x1:=(g _ b).trans l;have x2:=(g _ b).trans j;have v0:=(C _ b).trans A;have v1:=(C _ b).trans z;have v2:=(C _ b).trans y;have i0:c.cell? ⟨a.heap.size,0,none⟩=some (.int .i64 op):=(d.cell (p:=⟨a.heap.size,0,none⟩) X0).trans (by simp [go_sem]);have i1:c.cell? ⟨a.heap.size,1,none⟩=some (.string ⟨#[]⟩):=(d.cell (p:=⟨a.heap.size,1,none⟩) X0).trans (by simp [go_sem]);have i2:c.cell? ⟨a.heap.size,2,none⟩=some (.int .i64 0):=(d.cell (p:=⟨a.heap.size,2,none⟩) X0).trans (by simp [go_sem]);have O:∀ k,c.frozen? ⟨a.heap.size,k,none⟩=false:=fun k=>(d.frozen (p:=⟨a.heap.size,k,none⟩) X0).trans (by simp [go_sem]);have j1:=O 1;have j2:=O 2;have u1:=(g ⟨w1.heap.size+1,1,none⟩ (by show w1.heap.size+1<a.heap.size;omega)).trans X;have vY:=(r.alloc r.size _).trans (d.mono O0);have QS:a.heap.size+1<=c.heap.size:=by have:=d.size;simp at this;omega
   clear s1' s2' UZ z1' z2' y0' y1' y2' H E m l j A z y g C d O;have hq1:a.heap.size≠w1.heap.size:=O0;have B:a.heap.size≠w.heap.size:=O0;have k1:=wh (q:=⟨a.heap.size,1,none⟩) (by exact hq1) t1 (.string (Q3 t));have k2:=wh (q:=⟨a.heap.size,1,none⟩) (by exact hq1) t2 (.string (Q3 t));have m0:=wh (q:=⟨a.heap.size,1,none⟩) (by exact B) x0 (.string (Q3 t));have Z:=wh (q:=⟨a.heap.size,1,none⟩) (by exact B) x1 (.string (Q3 t));have Y:=wh (q:=⟨a.heap.size,1,none⟩) (by exact B) x2 (.string (Q3 t));have i:Hid (Hm s.data.toList (.returned (.tuple #[.agg #[.int .i64 op,.string (Q3 t),.int .i64 0],.bool ok]))):=⟨⟨op,(Q3 t),0⟩,ok,rfl,HY.out t ok hun⟩;clear hun;go_wp2;have F:=Pb (c.setCell ⟨a.heap.size,1,none⟩ (.string (Q3 t))) w.heap.size 0 (.int .i64 op) (.string (Q3 t)) (.int .i64 0) _ _ _ m0 Z Y;simp only [R7] at F;refine K4 (v:=.tuple #[.agg #[.int .i64 op,.string (Q3 t),.int .i64 0],.bool ok]) (by simp [results,results146,go_sem,F]) rfl ⟨i.out,((((vY.setCell J4 _).setCell X0 _).setCell X0 _).setCell X0 _)⟩
 · have K:=XC S R V hO hX
   have L:=xq S R V (.inl hO);rw [hO] at b0;rw [hX] at c0
   go_wp2_with fail
   refine (Xt s 2 _ O0 O0 O0 (f_ FV.out (U.alloc U.size _))).mono ?_;rintro e a ⟨⟨rfl,x⟩,n⟩;have P:=(hA3 (.cells #[.string (Gc op),.bool true,.bool false] 261)).trans (n.mono J4);have r:=hB0.trans (P.mono O0);have ES:w1.heap.size+2<=a.heap.size:=by have:=x.1;simp at this;omega
   have H:a.cell? ⟨w1.heap.size,1,none⟩=some (.bool true):=(n.cell (p:=⟨w1.heap.size,1,none⟩) X0).trans (by simp [go_sem]);have E:a.cell? ⟨w1.heap.size,2,none⟩=some (.bool false):=(n.cell (p:=⟨w1.heap.size,2,none⟩) X0).trans (by simp [go_sem]);have s1':=past (by show w1.heap.size<a.heap.size;omega) H;have s2':=past (by show w1.heap.size<a.heap.size;omega) E;obtain ⟨⟨m,l,j⟩,A,z,y⟩:=rz P;have b:w.heap.size<a.heap.size:=O0;have UZ:=past (by exact b) m;have z1':=past (by exact b) l;have z2':=past (by exact b) j;have y0':=Mc (by exact b) A;have y1':=Mc (by exact b) z;have y2':=Mc (by exact b) y;have D:Hid (K7 a (w1.heap.size+1) (U6 s.data.toList (2 - 1))):=by have h:=x;simp at h;exact h
   clear x n;by_cases f:(32:UInt8)∈s.data.toList;rotate_left
   · have I:U6 s.data.toList (2 - 1)=[s.data.toList]:=R_ _ f
     rw [I];have u:([s.data.toList]:List (List UInt8)).length=1:=rfl;rw [u];have i:Hid (Hm s.data.toList (.returned (.tuple #[.agg #[.int .i64 0,.string ⟨#[]⟩,.int .i64 0],.bool false]))):=⟨⟨0,⟨#[]⟩,0⟩,false,rfl,Md _ _ (L f)⟩;clear K L hO hX f;go_wp2;refine K4 (v:=.tuple #[.agg #[.int .i64 0,.string ⟨#[]⟩,.int .i64 0],.bool false]) (by simp [results,results146,go_sem,m,l,j]) rfl ⟨i.out,((r.setCell X0 _).setCell X0 _).setCell X0 _⟩
   have I:U6 s.data.toList (2 - 1)=[O1 s.data.toList,I1 s.data.toList]:=by show U6 s.data.toList (0+1)=_;rw [T_ 0 f,Ld]
   rw [I] at D ⊢;have p0:a.cell? ⟨w1.heap.size+1,0,none⟩=some (.string (Q3 (O1 s.data.toList))):=D.out.2 0 X0;have X:a.cell? ⟨w1.heap.size+1,1,none⟩=some (.string (Q3 (I1 s.data.toList))):=D.out.2 1 X0;have p1':=past (by show w1.heap.size+1<a.heap.size;omega) X;have u:([O1 s.data.toList,I1 s.data.toList]:List (List UInt8)).length=2:=rfl;rw [u];have i:Hid (Hm s.data.toList (.returned (.tuple #[.agg #[.int .i64 op,.string ⟨#[]⟩,.int .i64 (zg (I1 s.data.toList))],.bool (Q8 (I1 s.data.toList))]))):=⟨⟨op,⟨#[]⟩,(zg (I1 s.data.toList))⟩,(Q8 (I1 s.data.toList)),rfl,K f⟩;have hrz:(Q3 (I1 s.data.toList)).size<=300:=by
    rw [J3];have:=V3 List.length (Y9 f).1;rw [Q7,u_] at this;omega
   clear K L hO hX f
   go_wp2_with fail
   refine (QJ _ _ (by rw [J3] at hrz;omega)).mono ?_;rintro e c ⟨rfl,yT⟩;have d:Below (a.heap.size+1) (a.alloc (.cells #[.int .i64 op,.string ⟨#[]⟩,.int .i64 0] 165)) c:=by rw [yT];exact F4 _ _
   clear yT;have g:∀ p:Addr,p.block<a.heap.size->c.cell? p=a.cell? p:=fun p Q=>(d.cell O0).trans (((F4 a.heap.size a).alloc P9 _).cell Q);have C:∀ p:Addr,p.block<a.heap.size->c.frozen? p=a.frozen? p:=fun p Q=>(d.frozen O0).trans (((F4 a.heap.size a).alloc P9 _).frozen Q);have t1:=(g _ (by show w1.heap.size<a.heap.size;omega)).trans H;have t2:=(g _ (by show w1.heap.size<a.heap.size;omega)).trans E;have x0:=(g _ b).trans m;have x1:=(g _ b).trans l;have x2:=(g _ b).trans j;have v0:=(C _ b).trans A;have v1:=(C _ b).trans z;have v2:=(C _ b).trans y;have i0:c.cell? ⟨a.heap.size,0,none⟩=some (.int .i64 op):=(d.cell (p:=⟨a.heap.size,0,none⟩) X0).trans (by simp [go_sem]);have i1:c.cell? ⟨a.heap.size,1,none⟩=some (.string ⟨#[]⟩):=(d.cell (p:=⟨a.heap.size,1,none⟩) X0).trans (by simp [go_sem]);have i2:c.cell? ⟨a.heap.size,2,none⟩=some (.int .i64 0):=(d.cell (p:=⟨a.heap.size,2,none⟩) X0).trans (by simp [go_sem]);have O:∀ k,c.frozen? ⟨a.heap.size,k,none⟩=false:=fun k=>(d.frozen (p:=⟨a.heap.size,k,none⟩) X0).trans (by simp [go_sem]);have j1:=O 1;have j2:=O 2;have u1:=(g ⟨w1.heap.size+1,1,none⟩ (by show w1.heap.size+1<a.heap.size;omega)).trans X;have vY:=(r.alloc r.size _).trans (d.mono O0);have QS:a.heap.size+1<=c.heap.size:=by have:=d.size;simp at this;omega
   clear s1' s2' UZ z1' z2' y0' y1' y2' H E m l j A z y g C d O;generalize zg (I1 s.data.toList)=N at*;generalize Q8 (I1 s.data.toList)=ok at*;have hq1:a.heap.size≠w1.heap.size:=O0;have B:a.heap.size≠w.heap.size:=O0;have k1:=wh (q:=⟨a.heap.size,2,none⟩) (by exact hq1) t1 (.int .i64 N);have k2:=wh (q:=⟨a.heap.size,2,none⟩) (by exact hq1) t2 (.int .i64 N);have m0:=wh (q:=⟨a.heap.size,2,none⟩) (by exact B) x0 (.int .i64 N);have Z:=wh (q:=⟨a.heap.size,2,none⟩) (by exact B) x1 (.int .i64 N);have Y:=wh (q:=⟨a.heap.size,2,none⟩) (by exact B) x2 (.int .i64 N);cases ok
   all_goals
    go_wp2
   · have F:=Pb (c.setCell ⟨a.heap.size,2,none⟩ (.int .i64 N)) w.heap.size 0 (.int .i64 op) (.string ⟨#[]⟩) (.int .i64 N) _ _ _ m0 Z Y
     simp only [R7] at F;refine K4 (v:=.tuple #[.agg #[.int .i64 op,.string ⟨#[]⟩,.int .i64 N],.bool false]) (by simp [results,results146,go_sem,F]) rfl ⟨i.out,((((vY.setCell J4 _).setCell X0 _).setCell X0 _).setCell X0 _)⟩
   have F:=Pb (c.setCell ⟨a.heap.size,2,none⟩ (.int .i64 N)) w.heap.size 0 (.int .i64 op) (.string ⟨#[]⟩) (.int .i64 N) _ _ _ m0 Z Y;simp only [R7] at F;refine K4 (v:=.tuple #[.agg #[.int .i64 op,.string ⟨#[]⟩,.int .i64 N],.bool true]) (by simp [results,results146,go_sem,F]) rfl ⟨i.out,((((vY.setCell J4 _).setCell X0 _).setCell X0 _).setCell X0 _)⟩
 have K:=fun (f:(32:UInt8)∈s.data.toList) (W:(32:UInt8)∈I1 s.data.toList) (hn:Q8 (O1 (I1 s.data.toList))=true) (t:List UInt8) (ok:Bool) (hu:YM (I1 (I1 s.data.toList)) t ok)=>BC S R V hO hX f W O0 hn hu;have L:=xq S R V (.inl hO);have HBM:=sD S R V hO hX;have HBQ:=MC S R V hO hX;rw [hO] at b0;rw [hX] at c0
 go_wp2_with fail
 refine (Xt s 3 _ O0 O0 O0 (f_ FV.out (U.alloc U.size _))).mono ?_;rintro e a ⟨⟨rfl,x⟩,n⟩;have P:=(hA3 (.cells #[.string (Gc op),.bool true,.bool true] 261)).trans (n.mono J4);have r:=hB0.trans (P.mono O0);have ES:w1.heap.size+2<=a.heap.size:=by have:=x.1;simp at this;omega
 have H:a.cell? ⟨w1.heap.size,1,none⟩=some (.bool true):=(n.cell (p:=⟨w1.heap.size,1,none⟩) X0).trans (by simp [go_sem]);have E:a.cell? ⟨w1.heap.size,2,none⟩=some (.bool true):=(n.cell (p:=⟨w1.heap.size,2,none⟩) X0).trans (by simp [go_sem]);have s1':=past (by show w1.heap.size<a.heap.size;omega) H;have s2':=past (by show w1.heap.size<a.heap.size;omega) E;obtain ⟨⟨m,l,j⟩,A,z,y⟩:=rz P;have b:w.heap.size<a.heap.size:=O0;have UZ:=past (by exact b) m;have z1':=past (by exact b) l;have z2':=past (by exact b) j;have y0':=Mc (by exact b) A;have y1':=Mc (by exact b) z;have y2':=Mc (by exact b) y;have D:Hid (K7 a (w1.heap.size+1) (U6 s.data.toList (3 - 1))):=by have h:=x;simp at h;exact h
 clear x n;by_cases f:(32:UInt8)∈s.data.toList;rotate_left
 · have I:U6 s.data.toList (3 - 1)=[s.data.toList]:=R_ _ f
   rw [I];have u:([s.data.toList]:List (List UInt8)).length=1:=rfl;rw [u];have i:Hid (Hm s.data.toList (.returned (.tuple #[.agg #[.int .i64 0,.string ⟨#[]⟩,.int .i64 0],.bool false]))):=⟨⟨0,⟨#[]⟩,0⟩,false,rfl,Md _ _ (L f)⟩;clear K L HBM HBQ hO hX f;go_wp2;refine K4 (v:=.tuple #[.agg #[.int .i64 0,.string ⟨#[]⟩,.int .i64 0],.bool false]) (by simp [results,results146,go_sem,m,l,j]) rfl ⟨i.out,((r.setCell X0 _).setCell X0 _).setCell X0 _⟩
 by_cases W:(32:UInt8)∈I1 s.data.toList;rotate_left
 · have I:U6 s.data.toList (3 - 1)=[O1 s.data.toList,I1 s.data.toList]:=by show U6 s.data.toList (1+1)=_;rw [T_ 1 f,R_ 1 W]
   rw [I];have u:([O1 s.data.toList,I1 s.data.toList]:List (List UInt8)).length=2:=rfl;rw [u];have i:Hid (Hm s.data.toList (.returned (.tuple #[.agg #[.int .i64 0,.string ⟨#[]⟩,.int .i64 0],.bool false]))):=⟨⟨0,⟨#[]⟩,0⟩,false,rfl,Md _ _ (HBM W)⟩;clear K L HBM HBQ hO hX f W;go_wp2;refine K4 (v:=.tuple #[.agg #[.int .i64 0,.string ⟨#[]⟩,.int .i64 0],.bool false]) (by simp [results,results146,go_sem,m,l,j]) rfl ⟨i.out,((r.setCell X0 _).setCell X0 _).setCell X0 _⟩
 have I:U6 s.data.toList (3 - 1)=[O1 s.data.toList,O1 (I1 s.data.toList),I1 (I1 s.data.toList)]:=by show U6 s.data.toList (1+1)=_;rw [T_ 1 f,T_ 0 W,Ld]
 rw [I] at D ⊢;have p0:a.cell? ⟨w1.heap.size+1,0,none⟩=some (.string (Q3 (O1 s.data.toList))):=D.out.2 0 X0;have X:a.cell? ⟨w1.heap.size+1,1,none⟩=some (.string (Q3 (O1 (I1 s.data.toList)))):=D.out.2 1 X0;have p2:a.cell? ⟨w1.heap.size+1,2,none⟩=some (.string (Q3 (I1 (I1 s.data.toList)))):=D.out.2 2 X0;have p1':=past (by show w1.heap.size+1<a.heap.size;omega) X;have u:([O1 s.data.toList,O1 (I1 s.data.toList),I1 (I1 s.data.toList)]:List (List UInt8)).length=3:=rfl;rw [u];have hr1:(O1 (I1 s.data.toList)).length<=300/\(I1 (I1 s.data.toList)).length<=300:=by
  have h1:=V3 List.length (Y9 f).1;have h2:=V3 List.length (Y9 W).1;rw [Q7,u_] at h1 h2;omega
 have HY:=K f W;clear K L HBM hO hX f W;generalize hR1:O1 (I1 s.data.toList)=r1 at*;generalize I1 (I1 s.data.toList)=r2 at*
 go_wp2_with fail
 refine (QJ r1 _ O0).mono ?_;rintro e c ⟨rfl,yT⟩;have d:Below (a.heap.size+1) (a.alloc (.cells #[.int .i64 op,.string ⟨#[]⟩,.int .i64 0] 165)) c:=by rw [yT];exact F4 _ _
 clear yT;have g:∀ p:Addr,p.block<a.heap.size->c.cell? p=a.cell? p:=fun p Q=>(d.cell O0).trans (((F4 a.heap.size a).alloc P9 _).cell Q);have C:∀ p:Addr,p.block<a.heap.size->c.frozen? p=a.frozen? p:=fun p Q=>(d.frozen O0).trans (((F4 a.heap.size a).alloc P9 _).frozen Q);have t1:=(g _ (by show w1.heap.size<a.heap.size;omega)).trans H;have t2:=(g _ (by show w1.heap.size<a.heap.size;omega)).trans E;have x0:=(g _ b).trans m;have x1:=(g _ b).trans l;have x2:=(g _ b).trans j;have v0:=(C _ b).trans A;have v1:=(C _ b).trans z;have v2:=(C _ b).trans y;have i0:c.cell? ⟨a.heap.size,0,none⟩=some (.int .i64 op):=(d.cell (p:=⟨a.heap.size,0,none⟩) X0).trans (by simp [go_sem]);have i1:c.cell? ⟨a.heap.size,1,none⟩=some (.string ⟨#[]⟩):=(d.cell (p:=⟨a.heap.size,1,none⟩) X0).trans (by simp [go_sem]);have i2:c.cell? ⟨a.heap.size,2,none⟩=some (.int .i64 0):=(d.cell (p:=⟨a.heap.size,2,none⟩) X0).trans (by simp [go_sem]);have O:∀ k,c.frozen? ⟨a.heap.size,k,none⟩=false:=fun k=>(d.frozen (p:=⟨a.heap.size,k,none⟩) X0).trans (by simp [go_sem]);have j1:=O 1;have j2:=O 2;have u1:=(g ⟨w1.heap.size+1,1,none⟩ (by show w1.heap.size+1<a.heap.size;omega)).trans X;have u2:=(g ⟨w1.heap.size+1,2,none⟩ (by show w1.heap.size+1<a.heap.size;omega)).trans p2;have vY:=(r.alloc r.size _).trans (d.mono O0);have QS:a.heap.size+1<=c.heap.size:=by have:=d.size;simp at this;omega
 clear s1' s2' UZ z1' z2' y0' y1' y2' H E m l j A z y g C d O;have hq1:a.heap.size≠w1.heap.size:=O0;have B:a.heap.size≠w.heap.size:=O0;have k1:=wh (q:=⟨a.heap.size,2,none⟩) (by exact hq1) t1 (.int .i64 (zg r1));have k2:=wh (q:=⟨a.heap.size,2,none⟩) (by exact hq1) t2 (.int .i64 (zg r1));have m0:=wh (q:=⟨a.heap.size,2,none⟩) (by exact B) x0 (.int .i64 (zg r1));have Z:=wh (q:=⟨a.heap.size,2,none⟩) (by exact B) x1 (.int .i64 (zg r1));have Y:=wh (q:=⟨a.heap.size,2,none⟩) (by exact B) x2 (.int .i64 (zg r1));have n2:=wh (q:=⟨a.heap.size,2,none⟩) (p:=⟨w1.heap.size+1,2,none⟩) (by show a.heap.size≠w1.heap.size+1;omega) u2 (.int .i64 (zg r1));cases hn:Q8 r1
 · have i:Hid (Hm s.data.toList (.returned (.tuple #[.agg #[.int .i64 op,.string ⟨#[]⟩,.int .i64 (zg r1)],.bool false]))):=⟨⟨op,⟨#[]⟩,(zg r1)⟩,false,rfl,Md _ _ (HBQ hn)⟩
   clear HY HBQ hn;generalize zg r1=N at*;go_wp2;have F:=Pb (c.setCell ⟨a.heap.size,2,none⟩ (.int .i64 N)) w.heap.size 0 (.int .i64 op) (.string ⟨#[]⟩) (.int .i64 N) _ _ _ m0 Z Y;simp only [R7] at F;refine K4 (v:=.tuple #[.agg #[.int .i64 op,.string ⟨#[]⟩,.int .i64 N],.bool false]) (by simp [results,results146,go_sem,F]) rfl ⟨i.out,((((vY.setCell J4 _).setCell X0 _).setCell X0 _).setCell X0 _)⟩
 have HY2:=Q0 (HY hn);clear HY HBQ hn;generalize zg r1=N at*
 go_wp2_with fail
 refine (XB r2 _ O0).mono ?_;rintro e w7 ⟨⟨t,ok,rfl,hun⟩,a0x⟩;have J:Below c.heap.size (c.setCell ⟨a.heap.size,2,none⟩ (.int .i64 N)) w7:=by have h:=a0x;simp at h;exact h
 have i:Hid (Hm s.data.toList (.returned (.tuple #[.agg #[.int .i64 op,.string (Q3 t),.int .i64 N],.bool ok]))):=⟨⟨op,(Q3 t),N⟩,ok,rfl,HY2.out t ok hun⟩;clear a0x hun HY2;have a1:=(J.cell (by show w.heap.size<c.heap.size;omega)).trans m0;have a2:=(J.cell (by show w.heap.size<c.heap.size;omega)).trans Z;have a3:=(J.cell (by show w.heap.size<c.heap.size;omega)).trans Y;have d0:w7.frozen? ⟨w.heap.size,0,none⟩=false:=(J.frozen (by show w.heap.size<c.heap.size;omega)).trans (by simpa using v0);have d1:w7.frozen? ⟨w.heap.size,1,none⟩=false:=(J.frozen (by show w.heap.size<c.heap.size;omega)).trans (by simpa using v1);have d2:w7.frozen? ⟨w.heap.size,2,none⟩=false:=(J.frozen (by show w.heap.size<c.heap.size;omega)).trans (by simpa using v2);have q0:=(J.cell (by show a.heap.size<c.heap.size;omega)).trans ((O_ _ _ _ _ (Od O0)).trans i0);have q1:=(J.cell (by show a.heap.size<c.heap.size;omega)).trans ((O_ _ _ _ _ (Od O0)).trans i1);have q2:=(J.cell (by show a.heap.size<c.heap.size;omega)).trans (O7 _ _ _ i2);have g1:w7.frozen? ⟨a.heap.size,1,none⟩=false:=(J.frozen (by show a.heap.size<c.heap.size;omega)).trans (by simpa using j1);have hB7:=(vY.setCell (p:=⟨a.heap.size,2,none⟩) (by show w.heap.size<=a.heap.size;omega) _).trans (J.mono O0);have b0':=wh (q:=⟨a.heap.size,1,none⟩) (by exact B) a1 (.string (Q3 t));have b1':=wh (q:=⟨a.heap.size,1,none⟩) (by exact B) a2 (.string (Q3 t));have b2':=wh (q:=⟨a.heap.size,1,none⟩) (by exact B) a3 (.string (Q3 t));clear m0 Z Y k1 k2 i0 i1 i2 x0 x1 x2 v0 v1 v2 t1 t2 J;go_wp2;have F:=Pb (w7.setCell ⟨a.heap.size,1,none⟩ (.string (Q3 t))) w.heap.size 0 (.int .i64 op) (.string (Q3 t)) (.int .i64 N) _ _ _ b0' b1' b2';simp only [R7] at F;refine K4 (v:=.tuple #[.agg #[.int .i64 op,.string (Q3 t),.int .i64 N],.bool ok]) (by simp [results,results146,go_sem,F]) rfl ⟨i.out,((((hB7.setCell J4 _).setCell X0 _).setCell X0 _).setCell X0 _)⟩
end Go.Proofs.YtdjaajjndfbpmaaGreatDoor
