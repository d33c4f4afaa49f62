import Derived.Test.YtchjpjmcnhjbcaaGreatDoorK2
import Derived.Maps.OwnRows
import Derived.Test.YtchjpjmcnhjbcaaGreatDoorkH
import Derived.Deep.Cut
import Derived.Deep.CutRange
set_option linter.unusedVariables false
set_option maxHeartbeats 8000000
set_option maxRecDepth 100000
namespace Go.Proofs.YtchjpjmcnhjbcaaGreatDoor
open Proofs.Tryz Go.RowKit
variable {u u' w w':World} {B H N b bP bR bT base e n size:Nat} {old rv vs xs:List Value} {P:Program} {ops:Array Oper} {o:Oper} {a:Act} {K:Act->World->Prop} {Q:Exit->Act->World->Prop} {E:Prop} {v z:Value} {k:BY} {R:Value->Option (DataW Value×List MemPlace)} {D:DataW Value} {l pl:List (ByteArray×Value)} {t:TypeId} {row:Option Nat} {W:Int} {rs:List R3} {zs:List Int}
theorem D5.zS (h:D5 u B old) (hl:old.length=vs.length):D5 (Go.Proofs.YtchjpjmcnhjbcaaGreatDoor.fill u B 0 vs) B vs:=by
 have k:=D5.fill vs [] old [] 0 (by simpa using h) hl rfl;simpa using k
theorem nC (k:Nat) (a:k≠B) (vs:List Value):∀ {u:World} (j:Nat),(fill u B j vs).heap[k]?=u.heap[k]?:=by
 induction vs with
 | nil=>intro u j;rfl
 | cons v vs ih=>
  intro u j;exact (ih (j+1)).trans (Ec _ _ _ _ a)
theorem a1K {P:World->Prop} (hl:old.length=vs.length) (hB:D5 u B old) (b:X6 u B) (c:N<=B) (h:∀ u',Below N u u'->D5 u' B vs->X6 u' B->u.heap.size<=u'.heap.size->(∀ k,k<u.heap.size->k≠B->u'.heap[k]?=u.heap[k]?)->P u'):P (fill u B 0 vs):=
 h _ (x_ c _ _ (Z4 _ _)) (D5.zS hB hl) (X6.fill _ _ b) (by rw [Vf];exact v_ _) (fun k _ a=>nC k a _ _)
theorem RG (hB:D5 u B old) (hl:old.length=vs.length):∀ i,i<vs.length->(u.cell? ⟨B,0+i,none⟩).isSome=true:=fun i hi=>by
 rw [L8,hB i _ (Z8 O0)];rfl
theorem Ea (d:o.guard=none) (ty:TypeId) (x y:Operand) (ho:o.op=.store ty x y)
 (B j:Nat) (hx:a.eval x=.pointer (some ⟨B,j,none⟩)) (vs:List Value) (b:a.eval y=.agg vs.toArray) (hc:∀ i,i<vs.length->(w.cell? ⟨B,j+i,none⟩).isSome=true) (hf:X6 w B) (h1:∀ v∈vs,v.oneCell'=true)
 (c:(P.info? ty).map (·.size)=some vs.length) (e:o.dst=none) (h:K a (fill w B j vs)):
 if Region.wanted o (yielded ops a.tmps)=true then Oper.wp P o a w K Q else E:=by
 have hw:Region.wanted o (yielded ops a.tmps)=true:=by simp [Region.wanted,d]
 rw [X7 hw];unfold Oper.wp execOp;simp only [ho,hx,b,Instr.storeAt,Instr.sureAddr,qi,Ro,ak,uh w B j ty vs hc hf h1 c]
 first
  | exact h
  | (simp only [Oper.upon];exact h)
  | (simp only [Oper.upon,e];exact h)
theorem a3g (x:L4) (W:Int) (H:Nat) (w:World) (hx:x.tx.size<=1048600) (hH:H<w.heap.size) (N:w.cell? ⟨H,0,none⟩=some (.int .i64 W)) (L:(zn x).size<=1048700):
 Calls prog 258 #[.pointer (some ⟨H,0,none⟩),.agg #[.bool x.has,.string x.nm,.int .i64 x.cd,.string x.tx]] w fun e w'=>e=.returned (.agg #[.bool x.has,.string x.nm,.string (Z5 (zn x) W)])/\Bw w w':=by
 replace hx:x.tx.size<=1048700:=O0
 have q:Bw w ((w.alloc (.cells #[.bool x.has,vS x.nm,vI x.cd,vS x.tx] 185)).alloc (.cells #[.bool false,vE,vE] 205)):=P6.alloc X4 _;have hz:((w.alloc (.cells #[.bool x.has,vS x.nm,vI x.cd,vS x.tx] 185)).alloc (.cells #[.bool false,vE,vE] 205)).heap.size=w.heap.size+2:=X4;have g:=(q.cell (p:=⟨H,0,none⟩) hH).trans N;have a:=U0 ((Z7 w [.bool x.has,vS x.nm,vI x.cd,vS x.tx] 185).below ((Z4 _ _).alloc H8 (.cells #[.bool false,vE,vE] 205)) X4);have Y:Hid (D5 ((w.alloc (.cells #[.bool x.has,vS x.nm,vI x.cd,vS x.tx] 185)).alloc (.cells #[.bool false,vE,vE] 205)) (w.heap.size+1) [.bool false,vE,vE]):=fun j x hx=>by simp [go_sem,hx]
 have Z:Hid (X6 ((w.alloc (.cells #[.bool x.has,vS x.nm,vI x.cd,vS x.tx] 185)).alloc (.cells #[.bool false,vE,vE] 205)) (w.heap.size+1)):=fun j=>by simp [go_sem]
 go_enter func258,ntmps258
 go_wp2_with fail
 generalize ((w.alloc (.cells #[.bool x.has,vS x.nm,vI x.cd,vS x.tx] 185)).alloc (.cells #[.bool false,vE,vE] 205))=V at*;have d:Bw V V.drew:=(Z4 _ _).drew;have I:=(a.out.below d O0) 0 _ rfl;have D:=(a.out.below d O0) 1 _ rfl;have B:=(a.out.below d O0) 2 _ rfl;have z:=(a.out.below d O0) 3 _ rfl;have t:=(d.cell (p:=⟨H,0,none⟩) (show H<V.heap.size by omega)).trans g;refine wp_region_held_drew (S:=(fun u=>u.cell? ⟨w.heap.size,0,none⟩=some (.bool x.has)/\u.cell? ⟨w.heap.size,1,none⟩=some (vS x.nm)/\u.cell? ⟨w.heap.size,2,none⟩=some (vI x.cd)/\u.cell? ⟨w.heap.size,3,none⟩=some (vS x.tx)/\u.cell? ⟨H,0,none⟩=some (vI W))) Y2 ?_ fun hHeld=>?_
 · exact ⟨I,D,B,z,t⟩
 refine Y0 0 ?_;refine Y0 1 ?_;refine Y0 2 ?_;refine Y0 3 ?_;refine Y0 4 ?_;refine Y0 6 ?_;refine Y0 7 ?_;refine Y0 8 ?_;refine Y0 9 ?_;refine rq 5 fun K b=>?_;go_simp;refine (a2g x V.drew hx).mono ?_;rintro e s ⟨rfl,o⟩;have h1:=X5 d o;clear o;have J:=(a.out.below h1 O0) 0 _ rfl;have F:=(a.out.below h1 O0) 1 _ rfl;have C:=(a.out.below h1 O0) 2 _ rfl;have A:=(a.out.below h1 O0) 3 _ rfl;have y:=(h1.cell (p:=⟨H,0,none⟩) (show H<V.heap.size by omega)).trans g;go_simp;clear hHeld;refine E8 b ?_ fun hHeld=>?_
 · exact ⟨J,F,C,A,y⟩
 clear b K;refine rq 10 fun K b=>?_;go_simp;refine (aI (zn x) W s L).mono ?_;rintro e f ⟨rfl,n⟩;have h2:=X5 h1 n;clear n;have m:=(a.out.below h2 O0) 0 _ rfl;have l:=(a.out.below h2 O0) 1 _ rfl;have k:=(a.out.below h2 O0) 2 _ rfl;have i:=(a.out.below h2 O0) 3 _ rfl;have h:=(h2.cell (p:=⟨H,0,none⟩) (show H<V.heap.size by omega)).trans g;go_simp;clear hHeld;refine E8 b ?_ fun hHeld=>?_
 · exact ⟨m,l,k,i,h⟩
 clear b K;refine Y0 11 ?_;refine rq 12 fun K b=>?_;have r:=U0 (Y.out.below h2 O0);have F2:=U0 (Z.out.below h2 O0);refine Ea rfl 205 (.tmp 4) (.tmp 16) rfl (w.heap.size+1) 0 rfl [.bool x.has,vS x.nm,vS (Z5 (zn x) W)] rfl (RG r.out rfl) F2.out (by simp [Value.oneCell']) Y2 rfl ?_;clear hHeld;have c:Below (w.heap.size+1) f (fill f (w.heap.size+1) 0 [.bool x.has,vS x.nm,vS (Z5 (zn x) W)]):=x_ H8 _ _ (Z4 _ _);have X:=U0 (r.out.zS (vs:=[.bool x.has,vS x.nm,vS (Z5 (zn x) W)]) rfl);have hs2:=h2.size;have U:=(c.cell (p:=⟨w.heap.size,0,none⟩) (show w.heap.size<_ by omega)).trans m;have R:=(c.cell (p:=⟨w.heap.size,1,none⟩) (show w.heap.size<_ by omega)).trans l;have c2:=(c.cell (p:=⟨w.heap.size,2,none⟩) (show w.heap.size<_ by omega)).trans k;have c3:=(c.cell (p:=⟨w.heap.size,3,none⟩) (show w.heap.size<_ by omega)).trans i;have Q:=(c.cell (p:=⟨H,0,none⟩) (show H<_ by omega)).trans h;have O:=(X5 q h2).trans (c.mono O0);generalize fill f (w.heap.size+1) 0 [.bool x.has,vS x.nm,vS (Z5 (zn x) W)]=E at*;refine b.out _ _ ⟨U,R,c2,c3,Q⟩ fun hHeld=>?_;clear b K;refine wdn ?_
 go_wp2_with fail
 refine Y6 (v:=.agg ([.bool x.has,vS x.nm,vS (Z5 (zn x) W)]:List Value).toArray) (Q8 (P:=prog) (ty:=205) rfl _ E (w.heap.size+1) [.bool x.has,vS x.nm,vS (Z5 (zn x) W)] _ rfl X.out underlying205 rfl Y2) rfl ⟨rfl,O⟩
theorem a0n (x y:R3) (g f:OA) (j i:Nat) (w:World) (hl:x.gs.length<=1048576) (u:y.gs.length<=1048576) (n:R_ w g x.gs) (m:R_ w f y.gs):
 Calls prog 163 #[.agg #[.string x.key,.slice g x.gs.length j,.string x.out],.agg #[.string y.key,.slice f y.gs.length i,.string y.out]] w fun e w'=>Rb (x=y) e/\Bw w w':=by
 obtain ⟨a,d,b⟩:=x;obtain ⟨r,c,k⟩:=y;simp only at hl u n m ⊢;have hB:∀ o s,Bw w ((w.alloc o).alloc s):=fun o s=>P6.alloc X4 _;by_cases l:a=r
 · subst l;by_cases ho:b=k
   · subst ho;have B:=U0 (P8 n (hB (.cells #[vS a,vL g d.length j,vS b] 145) (.cells #[vS a,vL f c.length i,vS b] 145)));have A:=U0 (P8 m (hB (.cells #[vS a,vL g d.length j,vS b] 145) (.cells #[vS a,vL f c.length i,vS b] 145)));have z:=hB (.cells #[vS a,vL g d.length j,vS b] 145) (.cells #[vS a,vL f c.length i,vS b] 145);clear n m;go_enter func163,ntmps163
     go_wp2_with fail
     refine (c222 d c g f j i _ hl u B.out A.out).mono ?_;rintro e w1 ⟨hR,v⟩;have C:=X5 z v;obtain ⟨q,rfl,t⟩:=hR;have D:Hid (Rb (R3.mk a d b=R3.mk a c b) (.returned (.bool q))):=⟨q,rfl,t.trans ⟨fun h=>by rw [h],fun h=>by injection h⟩⟩;clear t v B A z;go_wp2;go_ret;exact ⟨D.out,C⟩
   · have p:Hid (¬ R3.mk a d b=R3.mk a c k):=fun h=>ho (by injection h);have ho1:=Ub ho;go_enter func163,ntmps163;go_wp2;go_ret;exact ⟨G5 p.out,hB _ _⟩
 · have p:Hid (¬ R3.mk a d b=R3.mk r c k):=fun h=>l (by injection h);have hk1:=Ub l;go_enter func163,ntmps163;go_wp2;go_ret;exact ⟨G5 p.out,hB _ _⟩
theorem Dq {rest:List Oper} {Q:Exit->Act->World->Prop}
 (r:o.guard=none) (s x:Operand) (t:TypeId) (p:o.op=Op.call { callee:=Callee.builtin Builtin.append,args:=#[s,x],argTypes:=#[t,t] })
 (base:Nat) (e:TypeId) (i:TypeInfo) (z:Value) (size bytes:Nat) (h1:P.underlying t=some (.slice e)) (h2:P.info? e=some i) (H:i.zero=some z) (F:i.size=size) (E:i.bytes=bytes) (D:z.cells.size=size) (C:0<size)
 (v:Value) (n:Nat) (xs:List Value) (h:a.eval s=v) (l:w.ownsRow base e size v n xs)
 (d:Addr) (m c:Nat) (b:List Value) (hx:a.eval x=.slice (some d) m c) (q:b.length=m*size) (hc:∀ j u,b[j]?=some u->w.cell? (d.add j)=some u) (I:∀ u∈b,u.oneCell'=true)
 (L:n+m<=maxLen) (J:(n+m)*bytes<=140737488355328) (y:base<=w.heap.size)
 (B:∀ v' w',w'.ownsRow base e size v' (n+m) (xs++b)->w.grownBy w' v.ownBlock->wpList P ops Q rest (a.put o.dst v') w'):wpList P ops Q (o::rest) a w:=by
 refine cu r fun K A=>?_;obtain ⟨v',w',k,g,f,_⟩:=run_append_own (P:=P) w base t o.type e i z size bytes h1 h2 H F E D C v n xs l d m c b q hc I L J y;unfold Oper.wp;simp [execOp,p,resolve,invoke,builtin,h,hx,k,Result.andThen];exact A _ _ (B v' w' g f)
theorem J6 (h:u.ownsRow base e size v n xs) {k:Nat} (a:v.ownBlock=some k):base<=k:=by
 rcases h.2 with ⟨hv,_⟩ | ⟨g,cap,cur,hv,hg,hh,_⟩
 · subst hv;simp [Value.ownBlock] at a
 · subst hv;simp [Value.ownBlock] at a;omega
theorem I9 (h:u.ownsRow base e size v n xs):∃ a c,v=.slice a n c:=by
 rcases h.2 with ⟨hv,h0⟩ | ⟨g,cap,cur,hv,hg,hh,_⟩
 · exact ⟨none,0,by rw [hv,h0]⟩
 · exact ⟨_,_,hv⟩
def n_:List L4->List (Int×ByteArray)
 | []=>[]
 | x::r=>if x.has then n_ r else (x.cd,x.tx)::n_ r
theorem jv (l:List L4) (x:L4):n_ (l++[x])=n_ l++(if x.has then [] else [(x.cd,x.tx)]):=by
 induction l with
 | nil=>cases h:x.has <;> simp [n_,h]
 | cons y r ih=>cases h:y.has <;> simp [n_,h,ih]
theorem Wx (l:List L4):(n_ l).length<=l.length:=by
 induction l with
 | nil=>exact v_ _
 | cons y r ih=>cases h:y.has <;> simp [n_,h] <;> omega
def wB (rs:List (Int×ByteArray)):List Value:=rs.flatMap fun r=>[.int .i64 r.1,.string r.2]
theorem YB (l:List (Int×ByteArray)) (c:Int) (s:BY):wB (l++[(c,s)])=wB l++[.int .i64 c,.string s]:=by simp [wB]
theorem Zt {l:List L4} {k:Nat} (h:k<l.length):l.take (k+1)=l.take k++[l.getD k E_]:=by
 rw [Sr,Z8 h];simp [List.getD,Z8 h]
theorem XJ:(prog.info? 103).map (fun i=>(i.zero,i.size,i.bytes))=some (some (.agg #[.int .i64 0,.string ⟨#[]⟩]),2,24):=Y2
theorem info_parts' {e:TypeId} {m:Nat} (h:(P.info? e).map (fun i=>(i.zero,i.size,i.bytes))=some (some z,n,m)):∃ i,P.info? e=some i/\i.zero=some z/\i.size=n/\i.bytes=m:=by
 cases hq:P.info? e with
 | none=>simp [hq] at h
 | some i=>
  simp only [hq,xw,Ou,xI] at h;exact ⟨i,rfl,h.1,h.2.1,h.2.2⟩
theorem a1H (ls:List L4) (a:OA) (N:Nat) (w:World) (hl:ls.length<=1048576) (y:o9 w a ls):
 Calls prog 255 #[.slice a ls.length N] w fun e w'=>(∃ v,e=.returned v/\w'.ownsRow w.heap.size 103 2 v (n_ ls).length (wB (n_ ls)))/\Bw w w':=by
 obtain ⟨C,I,F,E,D⟩:=info_parts' XJ;obtain ⟨b,off,hc⟩:=xg y;have R:=U0 hc;clear hc y;go_enter func255,ntmps255
 go_wp2_with fail
 go_loopw [3,8] (fun v i wr=>∃ (k:Nat),k<=ls.length/\i=.int .i64 k/\Hid (wr.ownsRow w.heap.size 103 2 v (n_ (ls.take k)).length (wB (n_ (ls.take k))))/\Below w.heap.size w wr) (fun _ i _=>ls.length - (RowKit.intOf i).toNat)
 case atStart=>exact ⟨0,J4 _,rfl,mg _ _ _ _,Z4 _ _⟩
 case round=>
  obtain ⟨k,hk,rfl,g,c⟩:=hrel;by_cases d:k<ls.length
  · obtain ⟨ha,l,f⟩:=Cc R.out d;subst ha;have g0:=(c.cell (p:=⟨b,off+k*4,none⟩) l).trans (f k d).1;have g1:=(c.cell (p:=⟨b,off+k*4+1,none⟩) l).trans (f k d).2.1;have g2:=(c.cell (p:=⟨b,off+k*4+2,none⟩) l).trans (f k d).2.2.1;have g3:=(c.cell (p:=⟨b,off+k*4+3,none⟩) l).trans (f k d).2.2.2;have z:=U0 (Zt d);have hln:(n_ (ls.take k)).length<=1048576:=G7 (Wx _) U7;clear f;generalize hx:ls.getD k E_=x at*;clear hx;obtain ⟨h,nm,cd,tx⟩:=x;simp only at g0 g1 g2 g3;have s:=c.size;cases h
    · have o:Hid (n_ (ls.take (k+1))=n_ (ls.take k)++[(cd,tx)]):=by
       show n_ _=_;rw [z.out,jv];simp
      have K:Bw w ((wr.alloc (.cells #[.bool false,.string nm,.int .i64 cd,.string tx] 185)).alloc (.cells #[.int .i64 cd,.string tx] 103)):=(c.alloc s _).alloc U7 _;have r:=U0 (gI (gI g.out (.cells #[.bool false,.string nm,.int .i64 cd,.string tx] 185)) (.cells #[.int .i64 cd,.string tx] 103));have hzA:((wr.alloc (.cells #[.bool false,.string nm,.int .i64 cd,.string tx] 185)).alloc (.cells #[.int .i64 cd,.string tx] 103)).heap.size=wr.heap.size+2:=X4;have A:Hid (∀ j u,([.int .i64 cd,.string tx]:List Value)[j]?=some u->((wr.alloc (.cells #[.bool false,.string nm,.int .i64 cd,.string tx] 185)).alloc (.cells #[.int .i64 cd,.string tx] 103)).cell? ((⟨wr.heap.size+1,0,none⟩:Addr).add j)=some u):=fun j u m=>by
       rw [Ag,L8]
       match j with
       | 0=>obtain rfl:=w_ m;simp [go_sem]
       | 1=>obtain rfl:=w_ m;simp [go_sem]
       | j+2=>simp at m
      clear g
      go_wp2_with (refine Dq rfl (.tmp 15) (.tmp 18) 347 rfl w.heap.size 103 C (.agg #[.int .i64 0,.string ⟨#[]⟩]) 2 24 underlying347 I F E D rfl o6 _ _ _ rfl r.out ⟨wr.heap.size+1,0,none⟩ 1 1 [.int .i64 cd,.string tx] rfl rfl A.out (by simp [Value.oneCell']) (by unfold maxLen;omega) O0 O0 ?_;intro v2 B n t;obtain ⟨a2,c2,rfl⟩:=I9 n;have P:=U0 n;have J:Bw w B:=K.grown t O0 (fun q H=>J6 r.out H);clear n t r A)
      go_roundw
      case rel=>exact ⟨k+1,O0,by go_num,by rw [o.out,YB,D9];exact P.out,J⟩
      case measure=>simp [RowKit.intOf];omega
    · have o:Hid (n_ (ls.take (k+1))=n_ (ls.take k)):=by
       show n_ _=_;rw [z.out,jv];simp
      have L:Bw w (wr.alloc (.cells #[.bool true,.string nm,.int .i64 cd,.string tx] 185)):=c.alloc s _;have S:=U0 (gI g.out (.cells #[.bool true,.string nm,.int .i64 cd,.string tx] 185));go_wp2;go_roundw
      case rel=>exact ⟨k+1,O0,by go_num,by rw [o.out];exact S.out,L⟩
      case measure=>simp [RowKit.intOf];omega
  · obtain rfl:k=ls.length:=O0;obtain ⟨O,c3,rfl⟩:=I9 g.out;have Q:Hid (wr.ownsRow w.heap.size 103 2 (.slice O (n_ (List.take ls.length ls)).length c3) (n_ ls).length (wB (n_ ls))):=by show World.ownsRow _ _ _ _ _ _ _;have h:=g.out;rw [Yp] at h ⊢;exact h
    go_wp2;go_ret;exact ⟨⟨_,rfl,Q.out⟩,c⟩
open Go.RowKit Go.Maps
theorem Dw:Keyed prog 9:=string_keyed underlying9
theorem a0X:Keyed prog 3:=int_keyed underlying3
theorem keyS (h:k.size<=maxLen):keyOf prog 9 (.string k)=some (kS k):=Go.WideMaps.keyOf_string_mk underlying9 h
theorem a1t {i:Nat} (h:i<=1048576):keyOf prog 3 (.int .i64 i)=some (.int .i64 i):=keyOf_int_mk underlying3 (WalkArith.wf_i64 O0)
theorem aj {k:TypeId} (h:w.ownsMap prog k R b n D):w.ownsMap prog k R b (Maps.size D) D:=by
 obtain ⟨es,d,c,F,hs,a⟩:=h;refine ⟨es,d,c,F,?_,a⟩;rw [a,size_eq,length_sorted];simp
theorem Qc {k:TypeId} (h:w.ownsMap prog k R b n D) (c:Below N w w') (d:b<N):w'.ownsMap prog k R b n D:=by
 obtain ⟨es,e,a,r⟩:=h;exact ⟨es,e,(c.block b d).trans a,r⟩
theorem Nh {k:TypeId} (h:w.ownsMap prog k R b n D):∃ es a,w.heap[b]?=some (.map es a):=by
 obtain ⟨es,a,c,r⟩:=h;exact ⟨es,a,c⟩
theorem ND {d:DataW Value} {ps:List MemPlace} (h:Ja v=some (d,ps)):d=.held v:=by
 unfold Ja at h;simp only [Ou,xI] at h;exact h.1.symm
theorem fC {e:TypeId} (h:w.ownsMap prog 9 Ja b n (mapD l)) (ht:prog.underlying t=some (.map 9 e)) (a:(zeroValue e).run prog w=.ok z w) (c:k.size<=maxLen):
 (Instr.lookup t (.map (some b)) (.string k) true).run prog w=.ok (.tuple #[(T_ l k).getD z,.bool (T_ l k).isSome]) w:=by
 obtain ⟨v,ps,hr,hv⟩:=h.look_ok Dw ht a (zd:=.held z) (zp:=[]) rfl (keyS c);have hd:=ND hv;rw [PK] at hd;rw [sO] at hr;rw [hr]
 cases hg:T_ l k with
 | none=>rw [hg] at hd;simp at hd;rw [hd];rfl
 | some u=>rw [hg] at hd;simp at hd;rw [hd];rfl
theorem OH {e:TypeId} (h:w.ownsMap prog 9 Ja b n (mapD l)) (ht:prog.underlying t=some (.map 9 e)) (a:(zeroValue e).run prog w=.ok z w) (c:k.size<=maxLen):
 (Instr.lookup t (.map (some b)) (.string k) false).run prog w=.ok ((T_ l k).getD z) w:=by
 obtain ⟨v,ps,hr,hv⟩:=h.lookup Dw ht a (zd:=.held z) (zp:=[]) rfl (keyS c);have hd:=ND hv;rw [PK] at hd;rw [hr]
 cases hg:T_ l k with
 | none=>rw [hg] at hd;simp at hd;rw [hd];rfl
 | some u=>rw [hg] at hd;simp at hd;rw [hd];rfl
theorem FO {e:TypeId} {k:Nat} (h:w.ownsMap prog 3 Ja b n (intD vs)) (ht:prog.underlying t=some (.map 3 e)) (a:(zeroValue e).run prog w=.ok z w) (d:k<=1048576) (c:k<vs.length):
 (Instr.lookup t (.map (some b)) (.int .i64 k) false).run prog w=.ok (vs.getD k undef) w:=by
 obtain ⟨v,ps,hr,hv⟩:=h.lookup a0X ht a (zd:=.held z) (zp:=[]) rfl (a1t d);have hd:=ND hv;rw [zV,X7 c] at hd;simp at hd;rw [hr,Fj,hd]
theorem a3Y {e:TypeId} (h:w.ownsMap prog 9 Ja b n (mapD l)) (ht:prog.underlying t=some (.map 9 e)) (a:n<maxLen) (c:k.size<=maxLen):
 ∃ w',(Instr.mapUpdate t (.map (some b)) (.string k) v).run prog w=.ok () w'/\w'.ownsMap prog 9 Ja b (n+1) ((mapD l).put (kS k) (.held v))/\w.grownBy w' (some b):=
 h.update Dw ht a (keyS c) (d:=.held v) (ps:=[]) rfl
theorem a2j {e:TypeId} (h:w.ownsMap prog 3 Ja b n (intD vs)) (ht:prog.underlying t=some (.map 3 e)) (c:n<maxLen) (f:vs.length<=1048576):
 ∃ w',(Instr.mapUpdate t (.map (some b)) (.int .i64 vs.length) v).run prog w=.ok () w'/\w'.ownsMap prog 3 Ja b (vs++[v]).length (intD (vs++[v]))/\w.grownBy w' (some b):=by
 obtain ⟨w',h1,h2,g⟩:=h.update a0X ht c (a1t f) (d:=.held v) (ps:=[]) rfl;rw [FQ] at h2;have a:=aj h2;rw [Rk] at a;exact ⟨w',h1,a,g⟩
theorem SS (i:o.guard=none) (t:TypeId) (m x v:Operand) (ho:o.op=Op.mapUpdate t m x v) {b n:Nat} {vs:List Value} {e:TypeId} {vv:Value}
 (hm:a.eval m=.map (some b)) (hx:a.eval x=.int .i64 vs.length) (hv:a.eval v=vv) (h:w.ownsMap prog 3 Ja b n (intD vs)) (ht:prog.underlying t=some (.map 3 e)) (f:n<maxLen) (g:vs.length<=1048576) (d:o.dst=none)
 (j:∀ w',w'.ownsMap prog 3 Ja b (vs++[vv]).length (intD (vs++[vv]))->w.grownBy w' (some b)->K a w'):
 if Region.wanted o (yielded ops a.tmps)=true then Oper.wp prog o a w K Q else E:=by
 have hw:Region.wanted o (yielded ops a.tmps)=true:=by simp [Region.wanted,i]
 rw [X7 hw];obtain ⟨w',hr,h1,h2⟩:=a2j (v:=vv) h ht f g;have c:=j w' h1 h2;unfold Oper.wp;simp [execOp,ho,hm,hx,hv,hr,Result.andThen]
 first
  | exact c
  | (simp only [Oper.upon];exact c)
  | (simp only [Oper.upon,d];exact c)
  | (simp only [Act.put,d];exact c)
theorem Iz (i:o.guard=none) (t:TypeId) (m x v:Operand) (ho:o.op=Op.mapUpdate t m x v) {b n:Nat} {l:List (ByteArray×Value)} {k:BY} {e:TypeId} {vv:Value}
 (hm:a.eval m=.map (some b)) (hx:a.eval x=.string k) (hv:a.eval v=vv) (h:w.ownsMap prog 9 Ja b n (mapD l)) (ht:prog.underlying t=some (.map 9 e)) (f:n<maxLen) (g:k.size<=maxLen) (d:o.dst=none)
 (j:∀ w',w'.ownsMap prog 9 Ja b (n+1) ((mapD l).put (kS k) (.held vv))->w.grownBy w' (some b)->K a w'):
 if Region.wanted o (yielded ops a.tmps)=true then Oper.wp prog o a w K Q else E:=by
 have hw:Region.wanted o (yielded ops a.tmps)=true:=by simp [Region.wanted,i]
 rw [X7 hw];obtain ⟨w',hr,h1,h2⟩:=a3Y (v:=vv) h ht f g;have c:=j w' h1 h2;unfold Oper.wp;simp [execOp,ho,hm,hx,hv,hr,Result.andThen]
 first
  | exact c
  | (simp only [Oper.upon];exact c)
  | (simp only [Oper.upon,d];exact c)
  | (simp only [Act.put,d];exact c)
def jB (B:Nat) (w:World) (v:Value) (x:R3):Prop:=∃ a c,v=.agg #[.string x.key,.slice a x.gs.length c,.string x.out]/\R_ w a x.gs/\(x.gs=[]\/∃ b off,a=some ⟨b,off,none⟩/\(b<B\/∃ cur fr,w.heap[b]?=some (.cells cur 205 fr)))
def oK (B:Nat) (w:World) (row:Option Nat):Prop:=∀ j,row=some j->B<=j/\∀ cur fr,w.heap[j]?≠some (.cells cur 205 fr)
theorem jB.kept {x:R3} (h:jB B w v x) (m:w.grownBy w' row) (hr:oK B w row):jB B w' v x:=by
 obtain ⟨a,c,hv,q,p⟩:=h;rcases p with f | ⟨b,off,ha,d⟩
 · exact ⟨a,c,hv,.inl f,.inl f⟩
 · rcases q with f | ⟨b',k,j,l,hc⟩
   · exact ⟨a,c,hv,.inl f,.inl f⟩
   · obtain ⟨rfl,rfl⟩:b'=b/\k=off:=by rw [ha] at j;simp at j;exact ⟨j.1.symm,j.2.symm⟩
     have n:some b'≠row:=fun e=>by
      have:=hr b' e.symm;rcases d with d | ⟨cur,fr,d⟩
      · omega
      · exact this.2 cur fr d
     have g:=m.block b' l n;refine ⟨a,c,hv,.inr ⟨b',k,ha,O9 l m.size,fun i o=>?_⟩,.inr ⟨b',k,ha,?_⟩⟩
     · obtain ⟨h0,h1,h2⟩:=hc i o;refine ⟨?_,?_,?_⟩
       · rw [<- h0];simp only [World.cell?,g]
       · rw [<- h1];simp only [World.cell?,g]
       · rw [<- h2];simp only [World.cell?,g]
     · rcases d with d | ⟨cur,fr,d⟩
       · exact .inl d
       · exact .inr ⟨cur,fr,g.trans d⟩
def Kw (rs:List R3) (k:BY):List Int:=((List.range rs.length).filter fun i=>decide ((rs.getD i f_).key=k)).map fun i:Nat=>(i:Int)
theorem EG (rs:List R3) (x:R3) (k:BY):Kw (rs++[x]) k=Kw rs k++if x.key=k then [(rs.length:Int)] else []:=by
 unfold Kw;rw [D9,Si,pF,Zu,Og]
 congr 1
 · congr 1
   apply List.filter_congr;intro i a;have:=Lr.1 a;have e:(rs++[x]).getD i f_=rs.getD i f_:=by simp [List.getD,S_ this]
   rw [e]
 · by_cases h:x.key=k <;> simp [List.getD,h]
theorem UC (rs:List R3) (k:BY):(Kw rs k).length<=rs.length:=by
 unfold Kw;rw [Vd];exact G7 (SH _ _) X4
def ng (w:World) (b:Nat) (t:TypeId):Prop:=∃ cur fr,w.heap[b]?=some (.cells cur t fr)
theorem ng.below (h:ng w b t) (a:Below N w w') (c:b<N):ng w' b t:=by
 obtain ⟨cur,fr,h⟩:=h;exact ⟨cur,fr,(a.block b c).trans h⟩
theorem ng.kept (h:ng w b t) (c:w.grownBy w' row) (a:some b≠row):ng w' b t:=by
 obtain ⟨cur,fr,h⟩:=h;exact ⟨cur,fr,(c.block b (r_.1 h).1 a).trans h⟩
theorem Gi (w:World) (a:Array Value) (t:TypeId):ng (w.alloc (.cells a t)) w.heap.size t:=⟨a,(0,0),(MapKept.heap_alloc w _).1⟩
structure VA (B H bT bR bP:Nat) (W:Int) (l:List (ByteArray×Value)) (rv:List Value) (pl:List (ByteArray×Value)) (w:World):Prop where
 hH:B<=H
 hT:B<=bT
 hR:B<=bR
 hP:B<=bP
 lt:H<w.heap.size
 n1:bT≠bR
 n2:bT≠bP
 n3:bR≠bP
 blk:D5 w H [.int .i64 W,.map (some bT),.map (some bR),.map (some bP)]
 tx:w.ownsMap prog 9 Ja bT l.length (mapD l)
 ta:Asc l
 rc:w.ownsMap prog 3 Ja bR rv.length (intD rv)
 pc:w.ownsMap prog 9 Ja bP pl.length (mapD pl)
 pa:Asc pl
 ty:ng w H 213
structure ShR (B:Nat) (rs:List R3) (rv:List Value) (pl:List (ByteArray×Value)) (w:World):Prop where
 len:rv.length=rs.length
 recs:∀ i,i<rs.length->jB B w (rv.getD i undef) (rs.getD i f_)
 grp:∀ k v,T_ pl k=some v->w.ownsInts B 3 .i64 v (Kw rs k)
 non:∀ k,T_ pl k=none->Kw rs k=[]
 apart:∀ k k' v v',k≠k'->T_ pl k=some v->T_ pl k'=some v'->v.ownBlock=none\/v.ownBlock≠v'.ownBlock
 pln:pl.length<=rs.length
theorem Eg (h:w.cell? ⟨H,0,none⟩=some v) {es:Array MapEntry} {c:Nat} (hm:w.heap[b]?=some (.map es c)):H≠b:=fun e=>by
 subst e;simp [World.cell?,hm] at h
theorem P9 (a:w.grownBy w' row) (hr:∀ j,row=some j->N<=j) (hN:N<=w.heap.size):Below N w w':=
 ⟨a.os,a.tape,a.output,a.size,fun k hk=>a.block k O0 (fun e=>by have:=hr k e.symm;omega)⟩
theorem Bf (h:Bw w w'):w.grownBy w' none:=⟨h.os,h.tape,h.output,h.size,fun k a _=>h.block k a⟩
theorem N9 (h:D5 w H vs) (c:w.grownBy w' row) (b:H<w.heap.size) (a:some H≠row):D5 w' H vs:=fun j v e=>by
 have:=h j v e;simp only [World.cell?,c.block H b a];simpa only [World.cell?] using this
theorem VA.kept (h:VA B H bT bR bP W l rv pl w) (a:w.grownBy w' row) (b:some H≠row) (a2:some bT≠row) (d:some bR≠row) (c:some bP≠row):VA B H bT bR bP W l rv pl w':=
 ⟨h.hH,h.hT,h.hR,h.hP,O9 h.lt a.size,h.n1,h.n2,h.n3,N9 h.blk a h.lt b,h.tx.kept a a2,h.ta,h.rc.kept a d,h.pc.kept a c,h.pa,h.ty.kept a b⟩
theorem ShR.kept (h:ShR B rs rv pl w) (a:w.grownBy w' row) (hr:oK B w row) (b:∀ k v,T_ pl k=some v->v.ownBlock=none\/v.ownBlock≠row):ShR B rs rv pl w':=
 ⟨h.len,fun i hl=>(h.recs i hl).kept a hr,fun k v e=>(h.grp k v e).kept a (b k v e),h.non,h.apart,h.pln⟩
theorem Hg (h:w.ownsInts B 3 .i64 v zs) {j:Nat} (a:v.ownBlock=some j):B<=j/\j<w.heap.size/\∃ cur,w.heap[j]?=some (.cells cur 3 (0,0)):=by
 rcases h.1.2 with ⟨rfl,_⟩ | ⟨g,cap,cur,rfl,c,b,_⟩
 · simp [Value.ownBlock] at a
 · simp [Value.ownBlock] at a;subst a;exact ⟨c,(r_.1 b).1,cur,b⟩
theorem ShR.below (h:ShR B rs rv pl w) (a:Bw w w'):ShR B rs rv pl w':=
 h.kept (Bf a) (fun _ e=>by cases e) (fun k v e=>by
  cases hq:v.ownBlock with
  | none=>exact .inl rfl
  | some j=>exact .inr X4)
theorem VA.below (h:VA B H bT bR bP W l rv pl w) (a:Bw w w'):VA B H bT bR bP W l rv pl w':=
 h.kept (Bf a) X4 X4 X4 X4
theorem ShR.map (h:ShR B rs rv pl w) (a:w.grownBy w' (some b)) (hB:B<=b) {es:Array MapEntry} {c:Nat} (hm:w.heap[b]?=some (.map es c)):ShR B rs rv pl w':=
 h.kept a (fun j e=>by cases e;exact ⟨hB,fun cur fr e=>by rw [hm] at e;simp at e⟩) (fun k v e=>by
  cases hq:v.ownBlock with
  | none=>exact .inl rfl
  | some j=>
   refine .inr fun d=>?_;obtain ⟨_,_,cur,hc⟩:=Hg (h.grp k v e) hq;cases d;rw [hm] at hc;simp at hc)
theorem qy (ha:Asc l) (k:BY) (v:Value):Asc (yg (k,v) (l.filter fun p=>!decide (p.1=k)))/\∀ k',T_ (yg (k,v) (l.filter fun p=>!decide (p.1=k))) k'=if k'=k then some v else T_ l k':=by
 have hf:Asc (l.filter fun p=>!decide (p.1=k)):=ha.filter _;have hA:Asc (yg (k,v) (l.filter fun p=>!decide (p.1=k))):=Qr hf (fun p a=>by have:=(Fv.1 a).2;simpa using this);refine ⟨hA,fun k'=>?_⟩;have b:∀ p,p∈yg (k,v) (l.filter fun p=>!decide (p.1=k))↔p=(k,v)\/(p∈l/\p.1≠k):=fun p=>by
  rw [(Yc _ _).mem_iff,Jd,Fv];simp
 by_cases h:k'=k
 · subst h;rw [X7 rfl];exact Gn hA ((b _).2 (.inl rfl))
 · rw [I7 h]
   cases hq:T_ l k' with
   | none=>
    exact Y_.2 (fun p a=>by
     rcases (b p).1 a with rfl | ⟨a,_⟩
     · exact fun e=>h e.symm
     · exact Y_.1 hq p a)
   | some u=>exact Gn hA ((b _).2 (.inr ⟨Hz hq,h⟩))
theorem QB (l:List (ByteArray×Value)) (k:BY) (v:Value):(mapD l).put (kS k) (.held v)=mapD (yg (k,v) (l.filter fun p=>!decide (p.1=k))):=by
 show DataW.map (DataW.insert (eS (k,v)) ((l.map eS).filter fun p=>!p.1.sameKey (kS k)))=DataW.map ((yg (k,v) _).map eS);rw [sK,List.filter_map]
 congr 2
 congr 1
 apply List.filter_congr;intro p _;show (!(kS p.1).sameKey (kS k))=_;rw [Uw]
def KF (w w':World):Prop:=∀ q t,ng w q t->t≠3->w'.heap[q]?=w.heap[q]?
theorem KF.trans {v:World} (h:KF w u) (g:KF u v):KF w v:=fun q t hT ht=>by
 have e:=h q t hT ht;obtain ⟨cs,fr,a⟩:=hT;exact (g q t ⟨cs,fr,e.trans a⟩ ht).trans e
theorem Nc (h:Below N w w') (hN:w.heap.size<=N):KF w w':=fun q t hT _=>h.block q (by obtain ⟨cs,fr,a⟩:=hT;have:=(r_.1 a).1;omega)
theorem Ez {c:Nat} {es:Array MapEntry} (d:w.grownBy w' (some b)) (hm:w.heap[b]?=some (.map es c)):KF w w':=fun q t hT _=>by
 obtain ⟨cs,fr,a⟩:=hT;refine d.block q (r_.1 a).1 fun e=>?_;obtain rfl:=w_ e;rw [hm] at a;cases a
theorem vK (b:w.grownBy w' v.ownBlock) (h:w.ownsInts B 3 .i64 v zs):KF w w':=fun q t hT ht=>by
 obtain ⟨cs,fr,a⟩:=hT;refine b.block q (r_.1 a).1 fun e=>?_;obtain ⟨_,_,cur,hc⟩:=Hg h e.symm;rw [a] at hc;injection hc with hc;injection hc with _ hc _;exact ht hc
def sF (W:Int) (ls:List L4):List Value:=ls.flatMap fun x=>[.bool x.has,.string x.nm,.string (Z5 (zn x) W)]
theorem Xe (h:u.ownsRow base e size v n xs) {k:Nat} (a:v.ownBlock=some k):k<u.heap.size:=by
 rcases h.2 with ⟨hv,_⟩ | ⟨g,cap,cur,hv,hg,b,_⟩
 · subst hv;simp [Value.ownBlock] at a
 · subst hv;simp [Value.ownBlock] at a;obtain rfl:=a;exact (r_.1 b).1
theorem qg (h:u.ownsRow base e size v n xs) (p:Addr) (x:Value) (hp:p.block<base):(u.setCell p x).ownsRow base e size v n xs:=by
 refine ⟨h.1,h.2.imp id ?_⟩;rintro ⟨g,c,cur,h1,h2,b,a⟩;exact ⟨g,c,cur,h1,h2,(Ec _ _ _ _ O0).trans b,a⟩
theorem sH (W:Int) (l:List L4) (x:L4):sF W (l++[x])=sF W l++[.bool x.has,.string x.nm,.string (Z5 (zn x) W)]:=by simp [sF]
theorem own_below (h:u.ownsRow base e size v n xs) (b:Bw u u'):u'.ownsRow base e size v n xs:=by
 refine ⟨h.1,h.2.imp id ?_⟩;rintro ⟨g,d,cur,h1,h2,a,c⟩;exact ⟨g,d,cur,h1,h2,(b.block g (r_.1 a).1).trans a,c⟩
theorem Uu {R:Nat} (h:u.ownsRow base e size v n xs) (hs:u.heap.size<=u'.heap.size) (ho:∀ k,k<u.heap.size->k≠R->u'.heap[k]?=u.heap[k]?) (hR:R<base):u'.ownsRow base e size v n xs:=by
 refine ⟨h.1,h.2.imp id ?_⟩;rintro ⟨g,c,cur,h1,h2,a,b⟩;exact ⟨g,c,cur,h1,h2,(ho g (r_.1 a).1 O0).trans a,b⟩
theorem H9 {base':Nat} (h:u.ownsRow base e size v n xs) (a:base'<=base):u.ownsRow base' e size v n xs:=by
 refine ⟨h.1,h.2.imp id ?_⟩;rintro ⟨g,d,cur,h1,h2,c,b⟩;exact ⟨g,d,cur,h1,G7 a h2,c,b⟩
theorem c213 (m:M3) (ls:List L4) (c:Int) (t:BY) (W:Int) (H:Nat) (a:OA) (cap:Nat) (w:World) (hm:m.le 1048600) (ht:t.size<=1048700) (hf:(J3 (O8 c t.data.toList)).size<=1048700) (hl:ls.length<=1048576) (hs:∀ i,(ls.getD i E_).tx.size<=1048600/\(zn (ls.getD i E_)).size<=1048700) (hat:o9 w a ls) (hH:H<w.heap.size) (hW:w.cell? ⟨H,0,none⟩=some (.int .i64 W)):
 Calls prog 213 #[.pointer (some ⟨H,0,none⟩),.agg #[.string m.nm,.string m.tl,.string m.ar],.slice a ls.length cap,.agg #[.int .i64 c,.string t]] w fun e w'=>(∃ v,e=.returned (.agg #[.string (d_ m),v,.string (Z5 (J3 (O8 c t.data.toList)) W)])/\w'.ownsRow w.heap.size 205 3 v ls.length (sF W ls))/\Bw w w':=by
 have HL:=U0 hat;clear hat;go_enter func213,ntmps213
 go_upto_region 1 with fail
 have hB0:Bw w (((w.alloc (.cells #[vS m.nm,vS m.tl,vS m.ar] 135)).alloc (.cells #[vI c,vS t] 103)).alloc (.cells #[vE,vN,vE] 145)):=(P6.alloc X4 _).alloc U7 _;have I:Hid ((Cl (((w.alloc (.cells #[vS m.nm,vS m.tl,vS m.ar] 135)).alloc (.cells #[vI c,vS t] 103)).alloc (.cells #[vE,vN,vE] 145)) w.heap.size 135 [vS m.nm,vS m.tl,vS m.ar]/\Cl (((w.alloc (.cells #[vS m.nm,vS m.tl,vS m.ar] 135)).alloc (.cells #[vI c,vS t] 103)).alloc (.cells #[vE,vN,vE] 145)) (w.heap.size+1) 103 [vI c,vS t]/\(((w.alloc (.cells #[vS m.nm,vS m.tl,vS m.ar] 135)).alloc (.cells #[vI c,vS t] 103)).alloc (.cells #[vE,vN,vE] 145)).cell? ⟨H,0,none⟩=some (vI W))/\Cl (((w.alloc (.cells #[vS m.nm,vS m.tl,vS m.ar] 135)).alloc (.cells #[vI c,vS t] 103)).alloc (.cells #[vE,vN,vE] 145)) (w.heap.size+2) 145 [vE,vN,vE]):=⟨⟨G9 (G9 (Y4 w [vS m.nm,vS m.tl,vS m.ar] 135) _) _,G9 (by have h:=Y4 (w.alloc (.cells #[vS m.nm,vS m.tl,vS m.ar] 135)) [vI c,vS t] 103;simpa using h) _,(hB0.cell (p:=⟨H,0,none⟩) hH).trans hW⟩,by have h:=Y4 ((w.alloc (.cells #[vS m.nm,vS m.tl,vS m.ar] 135)).alloc (.cells #[vI c,vS t] 103)) [vE,vN,vE] 145;simpa using h⟩;generalize ((w.alloc (.cells #[vS m.nm,vS m.tl,vS m.ar] 135)).alloc (.cells #[vI c,vS t] 103)).alloc (.cells #[vE,vN,vE] 145)=V at*;have hHV:=O9 hH hB0.size;have n:Hid (∀ u,Bw V u->(Cl u w.heap.size 135 [vS m.nm,vS m.tl,vS m.ar]/\Cl u (w.heap.size+1) 103 [vI c,vS t]/\u.cell? ⟨H,0,none⟩=some (vI W))/\Cl u (w.heap.size+2) 145 [vE,vN,vE]/\Bw w u/\o9 u a ls):=fun u r=>⟨⟨I.out.1.1.below r I.out.1.1.lt,I.out.1.2.1.below r I.out.1.2.1.lt,(r.cell (p:=⟨H,0,none⟩) hHV).trans I.out.1.2.2⟩,I.out.2.below r I.out.2.lt,X5 hB0 r,l7 HL.out (X5 hB0 r)⟩;have hVz:=I.out.2.lt;clear hW I HL hB0
 go_cut [9] from 10 (fun s wx=>∃ A,s=.pointer (some ⟨A,0,none⟩)/\V.heap.size<=A/\Hid (Cl wx A 145 [vS (d_ m),vN,vS (Z5 (J3 (O8 c t.data.toList)) W)])/\Hid (Bw V wx))
 case first=>
  have f:Bw V V.drew:=(Z4 _ _).drew;refine wp_region_held_drew (S:=fun u=>Cl u w.heap.size 135 [vS m.nm,vS m.tl,vS m.ar]/\Cl u (w.heap.size+1) 103 [vI c,vS t]/\u.cell? ⟨H,0,none⟩=some (vI W)) Y2 (n.out _ f).1 fun hH=>?_;generalize V.drew=y at*;refine tq 0 hH ?_ (hv:=fun u r=>X8 135 _ rfl (B:=w.heap.size) (j:=0) (cs:=[vS m.nm,vS m.tl,vS m.ar]) rfl (fun q v e=>by rw [L8];exact (r.1.cell q).trans e) underlying135 rfl Y2)
  try simp only [qq]
  refine tq 2 hH ?_ (hv:=fun u r=>X8 103 _ rfl (B:=w.heap.size+1) (j:=0) (cs:=[vI c,vS t]) rfl (fun q v e=>by rw [L8];exact (r.2.1.cell q).trans e) underlying103 rfl Y2)
  try simp only [qq]
  refine Y0 4 ?_;refine Y0 5 ?_;refine Y0 6 ?_;refine Y0 7 ?_;refine wpAnyH_ready (rs:=[1,10]) Y2 X4 ?_;refine AllReadyH.cons (o:=⟨some 13,.call ⟨.value (.func 257),#[.tmp 12],#[135]⟩,9,_,_,none⟩) rfl (fun K d=>?_) (AllReadyH.cons (o:=⟨some 9,.alloc 145,0,_,_,none⟩) rfl (fun K d=>?_) AllReadyH.nil);rotate_left
  · go_simp;have l:=U0 (Y4 y [vE,vN,vE] 145);have hA:=f.size
    replace f:=X5 f (P6 (w:=y) (o:=.cells #[vE,vN,vE] 145))
    refine E8 d (n.out _ f).1 fun hH=>?_;clear d K;generalize y.alloc (.cells #[vE,vN,vE] 145)=ya at*;refine rq 1 fun K d=>?_;go_simp;refine (a0T m _ hm).mono ?_;rintro e u0 ⟨rfl,g⟩
    replace l:=U0 (l.out.below g l.out.lt)
    replace f:=X5 f g
    clear g;go_simp;refine E8 d (n.out _ f).1 fun hH=>?_;clear d K;refine rq 3 fun K d=>?_;go_simp;refine (ET c t _ ht).mono ?_;rintro e u1 ⟨rfl,g⟩
    replace l:=U0 (l.out.below g l.out.lt)
    replace f:=X5 f g
    clear g;go_simp;refine E8 d (n.out _ f).1 fun hH=>?_;clear d K;refine rq 8 fun K d=>?_;go_simp;refine (aI _ W _ hf).mono ?_;rintro e u2 ⟨rfl,g⟩
    replace l:=U0 (l.out.below g l.out.lt)
    replace f:=X5 f g
    clear g;go_simp;refine E8 d (n.out _ f).1 fun hH=>?_;clear d K;refine Y0 9 ?_;refine rq 11 fun K d=>?_;refine t_ rfl 145 _ _ rfl (B:=y.heap.size) (j:=0) rfl (vs:=[vS (d_ m),vN,vS (Z5 (J3 (O8 c t.data.toList)) W)]) rfl l.out H8 (o8 rfl) Y2 ?_;intro z F C
    replace f:=f.trans (C.below hA)
    have O:=U0 F;refine E8 d (n.out _ f).1 fun hH=>?_;clear d K;refine wdn ?_
    go_wp2_with fail
    go_meet
    case rel=>exact ⟨_,rfl,hA,O,f⟩
  go_simp;refine (a0T m _ hm).mono ?_;rintro e u0 ⟨rfl,g⟩
  replace f:=X5 f g
  clear g;go_simp;refine E8 d (n.out _ f).1 fun hH=>?_;clear d K;refine wpAnyH_ready (rs:=[3,10]) Y2 X4 ?_;refine AllReadyH.cons (o:=⟨some 15,.call ⟨.value (.func 256),#[.tmp 14],#[103]⟩,9,_,_,none⟩) rfl (fun K d=>?_) (AllReadyH.cons (o:=⟨some 9,.alloc 145,0,_,_,none⟩) rfl (fun K d=>?_) AllReadyH.nil);rotate_left
  · go_simp;have l:=U0 (Y4 u0 [vE,vN,vE] 145);have hA:=f.size
    replace f:=X5 f (P6 (w:=u0) (o:=.cells #[vE,vN,vE] 145))
    refine E8 d (n.out _ f).1 fun hH=>?_;clear d K;generalize u0.alloc (.cells #[vE,vN,vE] 145)=ya at*;refine rq 3 fun K d=>?_;go_simp;refine (ET c t _ ht).mono ?_;rintro e u1 ⟨rfl,g⟩
    replace l:=U0 (l.out.below g l.out.lt)
    replace f:=X5 f g
    clear g;go_simp;refine E8 d (n.out _ f).1 fun hH=>?_;clear d K;refine rq 8 fun K d=>?_;go_simp;refine (aI _ W _ hf).mono ?_;rintro e u2 ⟨rfl,g⟩
    replace l:=U0 (l.out.below g l.out.lt)
    replace f:=X5 f g
    clear g;go_simp;refine E8 d (n.out _ f).1 fun hH=>?_;clear d K;refine Y0 9 ?_;refine rq 11 fun K d=>?_;refine t_ rfl 145 _ _ rfl (B:=u0.heap.size) (j:=0) rfl (vs:=[vS (d_ m),vN,vS (Z5 (J3 (O8 c t.data.toList)) W)]) rfl l.out H8 (o8 rfl) Y2 ?_;intro z F C
    replace f:=f.trans (C.below hA)
    have O:=U0 F;refine E8 d (n.out _ f).1 fun hH=>?_;clear d K;refine wdn ?_
    go_wp2_with fail
    go_meet
    case rel=>exact ⟨_,rfl,hA,O,f⟩
  go_simp;refine (ET c t _ ht).mono ?_;rintro e u1 ⟨rfl,g⟩
  replace f:=X5 f g
  clear g;go_simp;refine E8 d (n.out _ f).1 fun hH=>?_;clear d K;refine wpAnyH_ready (rs:=[8,10]) Y2 X4 ?_;refine AllReadyH.cons (o:=⟨some 20,.call ⟨.value (.func 151),#[.tmp 15,.tmp 19],#[9,3]⟩,9,_,_,none⟩) rfl (fun K d=>?_) (AllReadyH.cons (o:=⟨some 9,.alloc 145,0,_,_,none⟩) rfl (fun K d=>?_) AllReadyH.nil);rotate_left
  · go_simp;have l:=U0 (Y4 u1 [vE,vN,vE] 145);have hA:=f.size
    replace f:=X5 f (P6 (w:=u1) (o:=.cells #[vE,vN,vE] 145))
    refine E8 d (n.out _ f).1 fun hH=>?_;clear d K;generalize u1.alloc (.cells #[vE,vN,vE] 145)=ya at*;refine rq 8 fun K d=>?_;go_simp;refine (aI _ W _ hf).mono ?_;rintro e u2 ⟨rfl,g⟩
    replace l:=U0 (l.out.below g l.out.lt)
    replace f:=X5 f g
    clear g;go_simp;refine E8 d (n.out _ f).1 fun hH=>?_;clear d K;refine Y0 9 ?_;refine rq 11 fun K d=>?_;refine t_ rfl 145 _ _ rfl (B:=u1.heap.size) (j:=0) rfl (vs:=[vS (d_ m),vN,vS (Z5 (J3 (O8 c t.data.toList)) W)]) rfl l.out H8 (o8 rfl) Y2 ?_;intro z F C
    replace f:=f.trans (C.below hA)
    have O:=U0 F;refine E8 d (n.out _ f).1 fun hH=>?_;clear d K;refine wdn ?_
    go_wp2_with fail
    go_meet
    case rel=>exact ⟨_,rfl,hA,O,f⟩
  go_simp;refine (aI _ W _ hf).mono ?_;rintro e u2 ⟨rfl,g⟩
  replace f:=X5 f g
  clear g;go_simp;refine E8 d (n.out _ f).1 fun hH=>?_;clear d K;refine Y0 9 ?_;refine rq 10 fun K d=>?_;go_simp;have l:=U0 (Y4 u2 [vE,vN,vE] 145);have hA:=f.size
  replace f:=X5 f (P6 (w:=u2) (o:=.cells #[vE,vN,vE] 145))
  refine E8 d (n.out _ f).1 fun hH=>?_;clear d K;generalize u2.alloc (.cells #[vE,vN,vE] 145)=ya at*;refine rq 11 fun K d=>?_;refine t_ rfl 145 _ _ rfl (B:=u2.heap.size) (j:=0) rfl (vs:=[vS (d_ m),vN,vS (Z5 (J3 (O8 c t.data.toList)) W)]) rfl l.out H8 (o8 rfl) Y2 ?_;intro z F C
  replace f:=f.trans (C.below hA)
  have O:=U0 F;refine E8 d (n.out _ f).1 fun hH=>?_;clear d K;refine wdn ?_
  go_wp2_with fail
  go_meet
  case rel=>exact ⟨_,rfl,hA,O,f⟩
 obtain ⟨A,rfl,hA,l,BV⟩:=hcut;obtain ⟨_,CR,BW,_⟩:=n.out _ BV.out;obtain ⟨b,off,hc⟩:=xg (n.out V (Z4 _ _)).2.2.2;have BE:=U0 BV.out;have fH:=(n.out _ BV.out).1.2.2;have HR:=U0 CR;have HB:=U0 BW;have hHw:=O9 hHV BV.out.size;have hAw:=l.out.lt;have hRw:=CR.lt;have FH:=U0 fH;generalize wc=E at*;have HK:=U0 hc;clear hc CR BW n BV fH
 go_wp2_with fail
 go_loopw [24] (fun i wr=>∃ (k:Nat) (v:Value),k<=ls.length/\i=.int .i64 k/\Hid (Cl wr A 145 [.string (d_ m),v,.string (Z5 (J3 (O8 c t.data.toList)) W)])/\Hid (wr.ownsRow E.heap.size 205 3 v k (sF W (ls.take k)))/\But A E wr) (fun i _=>ls.length - (RowKit.intOf i).toNat)
 case atStart=>exact ⟨0,.slice none 0 0,J4 _,rfl,l,mg _ _ _ _,But.refl _ _⟩
 case round=>
  obtain ⟨k,v,hk,rfl,CAr,Y,Z⟩:=hrel;obtain ⟨N,L,rfl⟩:=I9 Y.out;have sz:=Z.size;by_cases R:k<ls.length;rotate_left
  · obtain rfl:k=ls.length:=O0;have CR:=U0 ((Z.block (w.heap.size+2) O0 O0).trans HR.out)
    go_wp2_with (first | (refine U9 CAr.out rfl 145 _ rfl (j:=0) [.string (d_ m),.slice N ls.length L,.string (Z5 (J3 (O8 c t.data.toList)) W)] rfl rfl underlying145 rfl Y2 ?_) | (refine y9 rfl 145 _ _ rfl (B:=w.heap.size+2) (j:=0) rfl (vs:=[.string (d_ m),.slice N ls.length L,.string (Z5 (J3 (O8 c t.data.toList)) W)]) rfl CR.out H8 (o8 rfl) Y2 ?_;intro z F C))
    refine Y6 (Q8 (P:=prog) (ty:=145) rfl _ z (w.heap.size+2) [.string (d_ m),.slice N ls.length L,.string (Z5 (J3 (O8 c t.data.toList)) W)] _ rfl F.blk underlying145 rfl Y2) rfl ⟨⟨_,rfl,?_⟩,(HB.out.trans (Z.below O0 O0)).trans (C.below O0)⟩;have h:=Y.out;rw [Yp] at h;exact H9 (Uu h (qj C.size.symm) (fun q _ hne=>C.block q hne) O0) O0
  obtain ⟨ha,hbw,hcell⟩:=Cc HK.out R;subst ha;have GB:Hid (∀ i v,([.bool (ls.getD k E_).has,.string (ls.getD k E_).nm,.int .i64 (ls.getD k E_).cd,.string (ls.getD k E_).tx]:List Value)[i]?=some v->wr.cell? ⟨b,off+k*4+i,none⟩=some v):=fun i v e=>by
   rw [Z.cell (p:=⟨b,off+k*4+i,none⟩) (O9 hbw BE.out.size) (by show b≠A;omega),BE.out.cell (p:=⟨b,off+k*4+i,none⟩) hbw]
   match i,e with
   | 0,e=>cases e;exact (hcell k R).1
   | 1,e=>cases e;exact (hcell k R).2.1
   | 2,e=>cases e;exact (hcell k R).2.2.1
   | 3,e=>cases e;exact (hcell k R).2.2.2
  have HT:=U0 (Zt R);have hxs:=hs k;have hDn:=U0 (fun q Q=>Xe Y.out (k:=q) Q);have hOb:=U0 (fun q Q=>J6 Y.out (k:=q) Q);clear hcell;generalize ls.getD k E_=x at*
  go_upto_region 5 with (first | (refine Y9 rfl (X8 185 _ rfl (B:=b) (j:=off+k*4) (cs:=[.bool x.has,.string x.nm,.int .i64 x.cd,.string x.tx]) rfl GB.out underlying185 rfl Y2) ?_) | (refine y9 rfl 185 _ _ rfl (B:=wr.heap.size) (j:=0) rfl (vs:=[.bool x.has,.string x.nm,.int .i64 x.cd,.string x.tx]) rfl (Y4 wr [.bool false,.string ⟨#[]⟩,.int .i64 0,.string ⟨#[]⟩] 185) H8 (o8 rfl) Y2 ?_;intro uA cx ox))
  have bA:=P6.trans (ox.below H8);have X:Hid (∀ u,Bw uA u->(Cl u wr.heap.size 185 [.bool x.has,.string x.nm,.int .i64 x.cd,.string x.tx]/\Cl u A 145 [.string (d_ m),.slice N k L,.string (Z5 (J3 (O8 c t.data.toList)) W)])/\u.ownsRow E.heap.size 205 3 (.slice N k L) k (sF W (ls.take k))/\But A E u/\wr.heap.size<u.heap.size/\u.cell? ⟨H,0,none⟩=some (.int .i64 W)):=fun u r=>have h:=X5 bA r;have hB:=Z.trans (But.of_below h);⟨⟨cx.below r cx.lt,CAr.out.below h CAr.out.lt⟩,own_below Y.out h,hB,O9 cx.lt r.size,(hB.cell (p:=⟨H,0,none⟩) hHw (by show H≠A;omega)).trans FH.out⟩
  have D:Bw uA uA.drew:=(Z4 _ _).drew;clear cx ox bA Y Z CAr GB;refine Zn 8 (S:=fun u=>Cl u wr.heap.size 185 [.bool x.has,.string x.nm,.int .i64 x.cd,.string x.tx]/\Cl u A 145 [.string (d_ m),.slice N k L,.string (Z5 (J3 (O8 c t.data.toList)) W)]) Y2 (X.out _ D).1 fun hH=>?_;generalize uA.drew=y at*;refine lq 0 hH ?_
  try simp only [qq]
  refine lq 1 hH ?_ (hv:=fun u r=>Fz 143 _ rfl (B:=A) (j:=1) rfl (r.2.cell 1) Y2)
  try simp only [qq]
  refine lq 2 hH ?_
  try simp only [qq]
  refine lq 3 hH ?_ (hv:=fun u r=>X8 185 _ rfl (B:=wr.heap.size) (j:=0) (cs:=[.bool x.has,.string x.nm,.int .i64 x.cd,.string x.tx]) rfl (fun q v e=>by rw [L8];exact (r.1.cell q).trans e) underlying185 rfl Y2)
  try simp only [qq]
  refine lr (i:=4) (o:=⟨some 32,.call ⟨.value (.func 258),#[.tmp 30,.tmp 31],#[156,185]⟩,205,_,_,none⟩) rfl o6 Y2 fun K d=>?_;go_simp;refine (a3g x W H y hxs.1 (by have:=(X.out _ D).2.2.1.size;omega) (X.out _ D).2.2.2.2 hxs.2).mono ?_;rintro e u1 ⟨rfl,g⟩
  replace D:=X5 D g
  clear g;go_simp;refine E8 d (X.out _ D).1 fun hH=>?_;clear d K;refine lr (i:=5) (o:=⟨some 33,.buildSlice 143 1 #[(0,.tmp 32)],143,_,_,none⟩) rfl o6 Y2 fun K d=>?_;go_simp;have HS:=U0 (Y4 u1 [.bool x.has,.string x.nm,.string (Z5 (zn x) W)] 205)
  replace D:=X5 D (P6 (w:=u1) (o:=.cells #[.bool x.has,.string x.nm,.string (Z5 (zn x) W)] 205))
  refine E8 d (X.out _ D).1 fun hH=>?_;clear d K;generalize u1.alloc (.cells #[.bool x.has,.string x.nm,.string (Z5 (zn x) W)] 205)=u2 at*;obtain ⟨⟨c1,c2⟩,h3,J,h5,_⟩:=X.out _ D;refine lr (i:=6) (o:=⟨some 34,.call ⟨.builtin .append,#[.tmp 29,.tmp 33],#[143,143]⟩,143,_,_,none⟩) rfl o6 Y2 fun K d=>?_;refine Aa rfl _ _ 143 rfl E.heap.size 205 3 underlying143 (Ll Y2) o6 _ k (sF W (ls.take k)) rfl h3 _ 1 [.bool x.has,.string x.nm,.string (Z5 (zn x) W)] rfl (.inr ⟨⟨u1.heap.size,0,none⟩,1,rfl,rfl,um HS.out⟩) (o8 rfl) O0 J.size ?_;intro v' w6 O6 g6 _;obtain ⟨U,c6,rfl⟩:=I9 O6;have k1:=U0 ((g6.block wr.heap.size h5 (fun h=>by have:=hDn.out wr.heap.size h.symm;omega)).trans c1);have k2:Hid (Cl w6 A 145 [.string (d_ m),.slice N k L,.string (Z5 (J3 (O8 c t.data.toList)) W)]):=(g6.block A c2.lt (fun h=>by have:=hOb.out A h.symm;omega)).trans c2;have B6:But A E w6:=⟨g6.os.trans J.os,g6.tape.trans J.tape,g6.output.trans J.output,G7 J.size g6.size,fun q Q hne=>(g6.block q (O9 Q J.size) (fun h=>by have:=hOb.out q h.symm;omega)).trans (J.block q Q hne)⟩;have H6:=U0 O6;clear O6 g6 c1 c2 h3 J HS;refine E8 d ⟨k1.out,k2.out⟩ fun hH=>?_;clear d K;refine lq 7 hH ?_
  try simp only [qq]
  refine lz (o:=⟨none,.store 143 (.tmp 35) (.tmp 34),0,_,_,none⟩) rfl Y2 fun K d=>?_;refine zA rfl (Yq 143 _ _ rfl (B:=A) (j:=1) rfl rfl ⟨_,k2.out.cell 1⟩ (k2.out.opn 1) Y2) ?_;refine d.out _ _ ?_;clear d K
  try simp only [qq]
  have C7:Hid (Cl (w6.setCell ⟨A,1,none⟩ (.slice U (k+1) c6)) A 145 [.string (d_ m),.slice U (k+1) c6,.string (Z5 (J3 (O8 c t.data.toList)) W)]):=k2.out.set 1 _;have O7:Hid ((w6.setCell ⟨A,1,none⟩ (.slice U (k+1) c6)).ownsRow E.heap.size 205 3 (.slice U (k+1) c6) (k+1) (sF W (ls.take (k+1)))):=by
   show World.ownsRow _ _ _ _ _ _ _;rw [HT.out,sH];exact qg H6.out _ _ hAw
  have B7:But A E (w6.setCell ⟨A,1,none⟩ (.slice U (k+1) c6)):=B6.setCell 1 _;refine qo Y2 ?_ _;go_wp2;go_roundw
  case rel=>exact ⟨k+1,.slice U (k+1) c6,O0,by go_num,C7,O7,B7⟩
  case measure=>simp [RowKit.intOf];omega
