import Derived.Test.YtchjpjmcnhjbcaaGreatDooreQF
import Derived.Lib.AppendStr
set_option maxRecDepth 100000
set_option linter.unusedVariables false
set_option maxHeartbeats 8000000
namespace Go.Proofs.YtchjpjmcnhjbcaaGreatDoor
open Proofs.Tryz Go.RowKit
theorem a1O (n:Int) (w:World):
 Calls prog 363 #[.int .i64 n] w fun e w'=>e=.returned (.bool (decide (1<=n/\n<=200)))/\w'=w:=by
 by_cases h1:1<=n <;> by_cases h2:n<=200
 all_goals
  go_enter func363,ntmps363;go_wp2
  all_goals go_ret
  all_goals exact ⟨by simp [*],rfl⟩
def Q9 (l:List UInt8):Nat->List UInt8
 | 0=>l
 | k+1=>Y1 (Q9 l k)
def A_ (l:List UInt8) (k:Nat):List (List UInt8):=(List.range k).map fun j=>O1 (Q9 l j)
theorem Pj (l:List UInt8) (k:Nat):A_ l (k+1)=A_ l k++[O1 (Q9 l k)]:=by simp [A_,pF]
theorem D8 (l:List UInt8):(O1 l).length<=l.length/\(Y1 l).length<=l.length:=by
 unfold O1 Y1;refine ⟨(List.takeWhile_sublist _).length_le,?_⟩;have:=(List.dropWhile_sublist (l:=l) (· !=32)).length_le;simp only [yj];omega
theorem Qi (l:List UInt8) (k:Nat):(Q9 l k).length<=l.length:=by
 induction k with
 | zero=>exact v_ _
 | succ k ih=>exact G7 (D8 _).2 ih
theorem vF (n:Int) (h0:0<=n) (h1:n<=1000000):(J3 (dec n)).size<=100000001:=by rw [I5];exact jK n h0 O0
theorem ve (s:BY):(J3 (P5 s.data.toList)).size<=3*s.size+2:=by
 rw [I5];have:=yt s.data.toList;have e:s.data.toList.length=s.size:=X4;unfold P5;simp only [o_,D9,Ee];omega
def Za (c:Int) (t:BY):List UInt8:=dec c++[32]++P5 t.data.toList
theorem lU (c:Int) (t:BY):J3 (dec c)++⟨#[32]⟩++J3 (P5 t.data.toList)=J3 (Za c t):=by
 show J3 (dec c)++J3 [32]++J3 (P5 t.data.toList)=_;rw [Vb,Vb];rfl
theorem uY (c:Int) (t:BY) (w:World) (h:0<=c) (hc1:c<=1000) (ht:t.size<=1048600):
 Calls prog 190 #[.agg #[.int .i64 c,.string t]] w fun e w'=>e=.returned (.string (J3 (Za c t)))/\Bw w w':=by
 have z1:=vF c h O0;have z2:=ve t;have r:=U0 (lU c t);have k1:¬ 9223372036854775807<(J3 (dec c)).size+1:=O0;have k1':¬ 9223372036854775807<=(J3 (dec c)).size:=O0;have k2:¬ 9223372036854775807<(J3 (dec c)).size+1+(J3 (P5 t.data.toList)).size:=O0;go_enter func190,ntmps190
 go_wp2_with fail
 have k:Bw w (w.alloc (.cells #[vI c,vS t] 103)):=P6;have d:w.heap.size<(w.alloc (.cells #[vI c,vS t] 103)).heap.size:=X4;have q:(w.alloc (.cells #[vI c,vS t] 103)).cell? (aW w 0)=some (vI c):=by simp [go_sem]
 have o:(w.alloc (.cells #[vI c,vS t] 103)).cell? (aW w 1)=some (vS t):=by simp [go_sem]
 generalize (w.alloc (.cells #[vI c,vS t] 103))=V at*;refine wp_region_held_drew (S:=(fun u=>u.cell? (aW w 0)=some (vI c)/\u.cell? (aW w 1)=some (vS t))) Y2 ?_ fun hHeld=>?_
 · ((try dsimp only);go_keep)
 refine Y0 0 ?_;refine Y0 1 ?_;refine Y0 4 ?_;refine Y0 5 ?_;refine rq 2 fun K a=>?_;go_simp;refine (c183 (c.toNat+1) c _ h O0 (yu _)).mono ?_;rintro e l ⟨rfl,j⟩;have b:Hid (Bw V l):=((Z4 _ _).drew).trans j;have b0:=(b.out.cell (p:=(aW w 0)) (by exact d)).trans q;have n:=(b.out.cell (p:=(aW w 1)) (by exact d)).trans o;clear j
 go_wp2_with fail
 clear hHeld;refine zH a fun hHeld=>?_;clear a K;refine Y0 3 ?_;refine rq 6 fun K a=>?_;go_simp;refine (JG t _ O0).mono ?_;rintro e w2 ⟨rfl,i⟩;have f:=U0 i;have g:=O9 d b.out.size;have d0:=(f.out.cell (p:=(aW w 0)) (by exact g)).trans b0;have d1:=(f.out.cell (p:=(aW w 1)) (by exact g)).trans n;clear i
 go_wp2_with fail
 clear hHeld;refine zH a fun hHeld=>?_;clear a K;refine Y0 7 ?_;refine Y0 8 ?_;refine wdn ?_;have m:=(X5 k b.out).trans (f.out.mono (X5 k b.out).size);clear hHeld;go_wp2;go_ret;exact ⟨by rw [<- r.out];rfl,m⟩
theorem tC {P:Program} {ops:Array Oper} {o:Oper} {a:Act} {w:World} {K:Act->World->Prop} {Q:Exit->Act->World->Prop} {E:Prop}
 (m:o.guard=none) (s x:Operand) (t u:TypeId) (l:o.op=Op.call { callee:=Callee.builtin Builtin.append,args:=#[s,x],argTypes:=#[t,u] })
 (base:Nat) (e:TypeId) (i:TypeInfo) (h1:P.underlying t=some (.slice e)) (g:P.underlying u=some .string) (h2:P.info? e=some i) (z:i.zero=some (.int .u8 0)) (y:i.size=1) (r:i.bytes=1)
 (v:Value) (n:Nat) (xs:List Value) (h:a.eval s=v) (k:w.ownsRow base e 1 v n xs) (b:BY) (hx:a.eval x=.string b)
 (B:n+b.size<=maxLen) (A:n+b.size<=140737488355328) (p:base<=w.heap.size)
 (q:∀ v' w',w'.ownsRow base e 1 v' (n+b.size) (xs++Lib.strCells b)->w.grownBy w' v.ownBlock->(v'=.slice none 0 0↔v=.slice none 0 0/\b.size=0)->K (a.put o.dst v') w'):
 if Region.wanted o (yielded ops a.tmps)=true then Oper.wp P o a w K Q else E:=by
 have hw:Region.wanted o (yielded ops a.tmps)=true:=by simp [Region.wanted,m]
 rw [X7 hw];obtain ⟨v',w',j,f,d,c⟩:=Lib.run_append_own_string (P:=P) w base t u o.type e i h1 g h2 z y r v n xs k b B A p;unfold Oper.wp;simp [execOp,l,resolve,invoke,builtin,h,hx,j,Result.andThen];exact q v' w' f d c
theorem tN {w:World} {base:Nat} {v:Value} {n:Nat} {l:List UInt8} (h:w.ownsRow base 5 1 v n (Lib.byteCells l)) (a:v≠.slice none 0 0):(convert 183 9 v).run prog w=.ok (.string ⟨l.toArray⟩) w:=by
 have d:=h;obtain ⟨h1,h2⟩:=h;rcases h2 with ⟨h0,_⟩ | ⟨g,f,cur,rfl,hg,hh,_⟩
 · exact absurd h0 a
 · have hl:l.length=n:=by rw [Yo] at h1;omega
   have:=run_convert_bytes_arg (P:=prog) w 183 5 underlying183 underlying5 g 0 n f (l.map fun b=>(b.toNat:Int)) (by simpa using hl) (fun i hi=>by
    rw [L8,d.cellAt i O0];have c:i<l.length:=O0;simp [Lib.byteCells,c]) 9 underlying9
   rw [this];have e:l.map ((fun n:Int=>UInt8.ofNat n.toNat)∘fun b=>(b.toNat:Int))=l:=(Ku (fun b _=>X4)).trans (JE l);simp only [strOfNums,ru,e]
theorem Ug {c:Int} {l:List UInt8} (h:vr c l=true):0<=c/\c<=7:=by
 unfold vr at h;by_cases h1:c=0\/c=1
 · omega
 · rw [I7 h1] at h;by_cases h2:c=2
   · omega
   · rw [I7 h2] at h;by_cases b:c=3
     · omega
     · rw [I7 b] at h;by_cases a:c=4\/c=5\/c=7
       · omega
       · rw [I7 a] at h;cases h
theorem Ci {x:L4} (h:Rh x):0<=x.cd/\x.cd<=7:=by
 rcases h.2 with ⟨_,⟨h,_⟩ | ⟨h,_⟩⟩ | ⟨_,h⟩
 · omega
 · omega
 · exact Ug h
def Wv (b:Bool):BY:=if b=true then ⟨#[104,97,115,32]⟩ else ⟨#[97,115,107,32]⟩
def Dn (x:L4):List UInt8:=(Wv x.has).data.toList++x.nm.data.toList++[32]++Za x.cd x.tx++[10]
theorem Yx (x:L4):Wv x.has++x.nm++⟨#[32]⟩++J3 (Za x.cd x.tx)++⟨#[10]⟩=J3 (Dn x):=by
 show J3 (Wv x.has).data.toList++J3 x.nm.data.toList++J3 [32]++J3 (Za x.cd x.tx)++J3 [10]=_;rw [Vb,Vb,Vb,Vb];rfl
theorem BO (c:Int) (t:BY) (h0:0<=c) (h1:c<=1000):(J3 (Za c t)).size<=100000004+3*t.size:=by
 have a:=vF c h0 O0;have b:=ve t;rw [I5] at a b ⊢;unfold Za;simp only [D9,o_,Ee];omega
theorem KN (b:Bool):(Wv b).size=4:=by cases b <;> rfl
def y_ (ls:List L4):List UInt8:=ls.flatMap Dn
theorem SA (ls:List L4) (k:Nat) (h:k<ls.length):y_ (ls.take (k+1))=y_ (ls.take k)++Dn (ls.getD k E_):=by
 unfold y_;have e:ls.take (k+1)=ls.take k++[ls.getD k E_]:=by
  rw [Sr];simp [List.getD,Z8 h]
 rw [e,Ns];simp
theorem a2m (a:OA) (cap:Nat) (ls:List L4) (w:World) (D:Uf ls) (R:∀ i,(ls.getD i E_).le 1048576) (W:o9 w a ls):
 Calls prog 189 #[.slice a ls.length cap] w fun e w'=>e=.returned (.string (J3 (y_ ls)))/\Bw w w':=by
 obtain ⟨N,U,Q,P,O⟩:=info_parts info5;obtain ⟨b,off,hc⟩:=xg W;have HC:=U0 hc;have HS:=U0 R;have HOK:=U0 D;have hl:=D.1;clear hc W R D;go_enter func189,ntmps189
 go_wp2_with fail
 go_loopw [3,4] (fun v B wr=>∃ k:Nat,k<=ls.length/\B=.int .i64 k/\Hid (wr.ownsRow w.heap.size 5 1 v (y_ (ls.take k)).length (Lib.byteCells (y_ (ls.take k))))/\Hid (v≠.slice none 0 0)/\(y_ (ls.take k)).length<=k*110000000/\Below w.heap.size w wr) (fun _ B _=>ls.length - (RowKit.intOf B).toNat)
 case atStart=>exact ⟨0,Nat.zero_le _,rfl,World.ownsRow_lit _ #[] 0 H8 (by unfold maxLen;omega) rfl,(fun e=>by cases e),by simp [y_],P6⟩
 case round=>
  obtain ⟨k,hk,rfl,r,F,hlen,f⟩:=hrel;by_cases y:k<ls.length
  · obtain ⟨ha,d,V⟩:=Cc HC.out y;subst ha;obtain ⟨q,n1,n2,n3⟩:=V k y;have g0:=(f.cell (p:=⟨b,off+k*4,none⟩) d).trans q;have g1:=(f.cell (p:=⟨b,off+k*4+1,none⟩) d).trans n1;have g2:=(f.cell (p:=⟨b,off+k*4+2,none⟩) d).trans n2;have g3:=(f.cell (p:=⟨b,off+k*4+3,none⟩) d).trans n3;have m:=O9 d f.size;have t:=HS.out k;have J:=Ci (HOK.out.2 k y);have z:=U0 (SA ls k y);generalize ls.getD k E_=x at*;generalize y_ (ls.take k)=l at*;have hki:(k:Int)<(ls.length:Int):=O0;have zr:=BO x.cd x.tx J.1 O0;have s1:=t.1;have s2:=t.2;have X:Hid ((Dn x).length<=110000000):=by
     have:=U6 ByteArray.size (Yx x);rw [I5] at this;simp only [LH] at this;have w4:=KN x.has;have e1:(⟨#[32]⟩:BY).size=1:=rfl;have e2:(⟨#[10]⟩:BY).size=1:=rfl;show (Dn x).length<=110000000;omega
    have k1:¬ 9223372036854775807<4+x.nm.size:=O0;have k2:¬ 9223372036854775807<4+x.nm.size+1:=O0;have k2':¬ 9223372036854775807<=4+x.nm.size:=O0;have k3:¬ 9223372036854775807<4+x.nm.size+1+(J3 (Za x.cd x.tx)).size:=O0;have k4:¬ 9223372036854775807<4+x.nm.size+1+(J3 (Za x.cd x.tx)).size+1:=O0;have k4':¬ 9223372036854775807<=4+x.nm.size+1+(J3 (Za x.cd x.tx)).size:=O0;have e32:(⟨#[32]⟩:BY).size=1:=rfl;have e10:(⟨#[10]⟩:BY).size=1:=rfl;have a6C:k<=14:=O0;clear V;cases hh:x.has
    · rw [hh] at g0 q;have L:Hid (Wv x.has=⟨#[97,115,107,32]⟩):=by rw [hh];rfl
      have o:Hid (⟨#[97,115,107,32]⟩++x.nm++⟨#[32]⟩++J3 (Za x.cd x.tx)++⟨#[10]⟩=J3 (Dn x)):=by rw [<- L.out];exact Yx x
      have e4:(⟨#[97,115,107,32]⟩:BY).size=4:=rfl
      go_wp2_with fail
      refine wp_region_held_drew (S:=(fun u=>u.cell? ⟨b,off+k*4,none⟩=some (.bool false)/\u.cell? ⟨b,off+k*4+1,none⟩=some (vS x.nm)/\u.cell? ⟨b,off+k*4+2,none⟩=some (vI x.cd)/\u.cell? ⟨b,off+k*4+3,none⟩=some (vS x.tx))) Y2 ?_ fun hHeld=>?_
      · ((try dsimp only);go_keep)
      refine Y0 0 ?_;refine Y0 1 ?_;refine Y0 2 ?_;refine Y0 3 ?_;refine Y0 4 ?_;refine Y0 5 ?_;refine Y0 6 ?_;refine Y0 7 ?_;refine Y0 8 ?_;refine Y0 9 ?_;refine Y0 10 ?_;refine Y0 11 ?_;refine Y0 12 ?_;refine Y0 13 ?_;refine rq 14 fun K g=>?_;go_simp;refine (uY x.cd x.tx _ J.1 O0 (by have:=t.2;omega)).mono ?_;rintro e A ⟨rfl,s⟩;have c:Hid (Bw wr A):=((Z4 _ _).drew).trans s;have b0:=(c.out.cell (p:=⟨b,off+k*4,none⟩) (by exact m)).trans g0;have b1:=(c.out.cell (p:=⟨b,off+k*4+1,none⟩) (by exact m)).trans g1;have b2:=(c.out.cell (p:=⟨b,off+k*4+2,none⟩) (by exact m)).trans g2;have b3:=(c.out.cell (p:=⟨b,off+k*4+3,none⟩) (by exact m)).trans g3;clear s
      go_wp2_with fail
      clear hHeld;refine zH g fun hHeld=>?_;clear g K;refine Y0 15 ?_;refine Y0 16 ?_;refine rq 17 fun K g=>?_;refine tC rfl (.tmp 18) (.tmp 34) 183 9 rfl w.heap.size 5 N underlying183 underlying9 U Q P O _ _ _ rfl (ownsRow_below r.out c.out) _ rfl (by simp only [ByteArray.size_append];unfold maxLen;omega) (by simp only [ByteArray.size_append];omega) (by have h1:=c.out.size;have h2:=f.size;omega) ?_;intro v' Y C I E;have h:=(X5 f c.out).grown I (by have h1:=c.out.size;have h2:=f.size;omega) (fun j H=>(r.out.lt j H).1);have m0:=(h.cell (p:=⟨b,off+k*4,none⟩) d).trans q;have m1:=(h.cell (p:=⟨b,off+k*4+1,none⟩) d).trans n1;have m2:=(h.cell (p:=⟨b,off+k*4+2,none⟩) d).trans n2;have Z:=(h.cell (p:=⟨b,off+k*4+3,none⟩) d).trans n3;clear hHeld;refine zH g fun hHeld=>?_;clear g K;refine Y0 18 ?_;refine wdn ?_;have HF:Hid (ByteArray.size _=_/\_):=⟨U6 ByteArray.size o.out,o.out⟩;clear hHeld;go_wp2;go_roundw
      case rel=>
       refine ⟨k+1,O0,by go_num,?_,fun e=>F.out (E.1 e).1,by rw [z.out,D9];have:=X.out;omega,h⟩;rw [z.out,O_,D9];have n:=C;rw [o.out] at n;rw [I5] at n;exact n
      case measure=>simp [RowKit.intOf];omega
    · rw [hh] at g0 q;have L:Hid (Wv x.has=⟨#[104,97,115,32]⟩):=by rw [hh];rfl
      have o:Hid (⟨#[104,97,115,32]⟩++x.nm++⟨#[32]⟩++J3 (Za x.cd x.tx)++⟨#[10]⟩=J3 (Dn x)):=by rw [<- L.out];exact Yx x
      have e4:(⟨#[104,97,115,32]⟩:BY).size=4:=rfl
      go_wp2_with fail
      refine wp_region_held_drew (S:=(fun u=>u.cell? ⟨b,off+k*4,none⟩=some (.bool true)/\u.cell? ⟨b,off+k*4+1,none⟩=some (vS x.nm)/\u.cell? ⟨b,off+k*4+2,none⟩=some (vI x.cd)/\u.cell? ⟨b,off+k*4+3,none⟩=some (vS x.tx))) Y2 ?_ fun hHeld=>?_
      · ((try dsimp only);go_keep)
      refine Y0 0 ?_;refine Y0 1 ?_;refine Y0 2 ?_;refine Y0 3 ?_;refine Y0 4 ?_;refine Y0 5 ?_;refine Y0 6 ?_;refine Y0 7 ?_;refine Y0 8 ?_;refine Y0 9 ?_;refine Y0 10 ?_;refine Y0 11 ?_;refine Y0 12 ?_;refine Y0 13 ?_;refine rq 14 fun K g=>?_;go_simp;refine (uY x.cd x.tx _ J.1 O0 (by have:=t.2;omega)).mono ?_;rintro e A ⟨rfl,s⟩;have c:Hid (Bw wr A):=((Z4 _ _).drew).trans s;have b0:=(c.out.cell (p:=⟨b,off+k*4,none⟩) (by exact m)).trans g0;have b1:=(c.out.cell (p:=⟨b,off+k*4+1,none⟩) (by exact m)).trans g1;have b2:=(c.out.cell (p:=⟨b,off+k*4+2,none⟩) (by exact m)).trans g2;have b3:=(c.out.cell (p:=⟨b,off+k*4+3,none⟩) (by exact m)).trans g3;clear s
      go_wp2_with fail
      clear hHeld;refine zH g fun hHeld=>?_;clear g K;refine Y0 15 ?_;refine Y0 16 ?_;refine rq 17 fun K g=>?_;refine tC rfl (.tmp 18) (.tmp 34) 183 9 rfl w.heap.size 5 N underlying183 underlying9 U Q P O _ _ _ rfl (ownsRow_below r.out c.out) _ rfl (by simp only [ByteArray.size_append];unfold maxLen;omega) (by simp only [ByteArray.size_append];omega) (by have h1:=c.out.size;have h2:=f.size;omega) ?_;intro v' Y C I E;have h:=(X5 f c.out).grown I (by have h1:=c.out.size;have h2:=f.size;omega) (fun j H=>(r.out.lt j H).1);have m0:=(h.cell (p:=⟨b,off+k*4,none⟩) d).trans q;have m1:=(h.cell (p:=⟨b,off+k*4+1,none⟩) d).trans n1;have m2:=(h.cell (p:=⟨b,off+k*4+2,none⟩) d).trans n2;have Z:=(h.cell (p:=⟨b,off+k*4+3,none⟩) d).trans n3;clear hHeld;refine zH g fun hHeld=>?_;clear g K;refine Y0 18 ?_;refine wdn ?_;have HF:Hid (ByteArray.size _=_/\_):=⟨U6 ByteArray.size o.out,o.out⟩;clear hHeld;go_wp2;go_roundw
      case rel=>
       refine ⟨k+1,O0,by go_num,?_,fun e=>F.out (E.1 e).1,by rw [z.out,D9];have:=X.out;omega,h⟩;rw [z.out,O_,D9];have n:=C;rw [o.out] at n;rw [I5] at n;exact n
      case measure=>simp [RowKit.intOf];omega
  · have HT:Hid (y_ (ls.take k)=y_ ls):=by rw [l_ O0];rfl
    have hcv:=tN r.out F.out;go_wp2;go_ret;exact ⟨by rw [<- HT.out];rfl,f⟩
